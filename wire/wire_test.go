package wire

import (
	"slices"
	"strings"
	"testing"

	"tipstaff/api"
	"tipstaff/crc"
)

func frameOf(tag, kind, a, b int) api.Frame {
	return api.Frame{Tag: tag, Event: api.Event{Kind: kind, A: a, B: b}}
}

// sealed puts the right sum behind a body.
func sealed(body string) string {
	return "<" + body + crc.Hex(string([]byte{crc.Sum(body)})) + ">"
}

var good = []api.Frame{frameOf(1, 1, 3, 1), frameOf(2, 2, 0, 99), frameOf(3, 3, 99, 0), frameOf(3, 4, 10, 3), frameOf(1, 4, 0, 0)}

func TestP6_1(t *testing.T) {
	for i, c := range []struct {
		f api.Frame
		e api.Errno
	}{{frameOf(0, 9, 0, 0), api.ErrRange}, {frameOf(4, 1, 0, 0), api.ErrRange}, {frameOf(1, 5, 100, 0), api.ErrKind}, {frameOf(1, 0, 0, 0), api.ErrKind}, {frameOf(1, 1, 100, 0), api.ErrRange}, {frameOf(1, 1, 0, -1), api.ErrRange}, {frameOf(1, 1, -1, 0), api.ErrRange}} {
		s, a := Encode(c.f)
		n, b := Length(c.f)
		j, d := Join([]api.Frame{good[0], c.f, frameOf(9, 9, 9, 9)})
		if Check(c.f) != c.e || a != c.e || b != c.e || d != c.e || s != "" || n != 0 || j != "" {
			t.Error(i, Check(c.f), a, b, d, s, n, j)
		}
	}
	for i, want := range []string{"Ph3,1;", "Sc0,99;", "Dk99,0;", "Dm10,3;", "Pm0,0;"} {
		s, e := Encode(good[i])
		n, f := Length(good[i])
		if s != sealed(want) || e != api.OK || n != len(s) || f != api.OK || Check(good[i]) != api.OK {
			t.Error(s, e, n, f)
		}
	}
	if n, _ := Length(good[0]); n != 10 {
		t.Error(n)
	}
}

func TestP6_2(t *testing.T) {
	s := sealed("Ph3,1;")
	wrong := []byte(s)
	wrong[7] = "0123456789abcdef0"[strings.IndexByte("0123456789abcdef", wrong[7])+1]
	for text, want := range map[string]api.Fault{
		s[:9]: {Err: api.ErrForm, At: 9}, s + " ": {Err: api.ErrForm, At: 10}, "": {Err: api.ErrForm, At: 0}, "<Ph03,1;00>": {Err: api.ErrForm, At: 4}, "<Xh3,1;00>": {Err: api.ErrForm, At: 1}, strings.Repeat("x", 17): {Err: api.ErrLong, At: 16}, strings.Repeat("x", 16): {Err: api.ErrForm, At: 0},
		"<Ph123,1;00>": {Err: api.ErrForm, At: 5}, "<Ph3,100;00>": {Err: api.ErrForm, At: 7}, "<Ph": {Err: api.ErrForm, At: 3}, "<Ph3": {Err: api.ErrForm, At: 4}, "<Px3,1;00>": {Err: api.ErrForm, At: 2}, "<Ph,1;00>": {Err: api.ErrForm, At: 3}, "<Ph3;1;00>": {Err: api.ErrForm, At: 4},
		string(wrong): {Err: api.ErrSum, At: 7}, string(wrong) + "x": {Err: api.ErrSum, At: 7}, string(wrong[:9]): {Err: api.ErrForm, At: 9}, strings.ToUpper(s[:9]) + ">": {Err: api.ErrForm, At: 2}, "<P\xff3,1;00>": {Err: api.ErrForm, At: 2}, "<Ph3,1;0A>": {Err: api.ErrForm, At: 8},
	} {
		if f, fault := Decode(text); f != (api.Frame{}) || fault != want {
			t.Errorf("%q: %v %v", text, f, fault)
		}
	}
}

func TestP6_3_P6_5_P6_7(t *testing.T) {
	s := sealed("Ph3,1;")
	if l, n := Scan("x" + s + "<" + s + ">"); len(l) != 2 || n != 3 {
		t.Error(l, n)
	}
	for text, want := range map[string][2]int{"": {0, 0}, "<<<": {0, 3}, s[:9]: {0, 9}, "<" + s: {1, 1}, s[:5] + s: {1, 5}, "<Ph3,1;00>": {0, 10}, s + s: {2, 0}, ">" + s + "<>": {1, 3}} {
		l, n := Scan(text)
		if len(l) != want[0] || n != want[1] {
			t.Errorf("%q: %v %d", text, l, n)
		}
	}
	j, e := Join(good)
	l, n := Scan(j)
	if e != api.OK || n != 0 || !slices.Equal(l, good) {
		t.Error(j, l, n)
	}
	with := ""
	for _, f := range good {
		s, _ := Encode(f)
		with += "é\x00" + s + "ab"
	}
	if l, n := Scan(with); n != 5*5 || !slices.Equal(l, good) {
		t.Error(l, n)
	}
	a, m := Scan(with + j)
	if len(a) != 10 || m != 25 {
		t.Error(a, m)
	}
	if l, n := Scan(strings.Repeat("<", 100000)); len(l) != 0 || n != 100000 {
		t.Error(n)
	}
}

func TestP6_4_P6_6(t *testing.T) {
	for _, f := range good {
		s, _ := Encode(f)
		if g, fault := Decode(s); g != f || fault != (api.Fault{}) {
			t.Error(f, g, fault)
		}
		for at := range len(s) {
			for b := range 256 {
				c := []byte(s)
				c[at] = byte(b)
				if g, fault := Decode(string(c)); string(c) != s && (fault.Err == api.OK || g != (api.Frame{})) {
					t.Fatalf("%q %q", s, c)
				}
			}
		}
	}
}
