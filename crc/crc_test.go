package crc

import (
	"strings"
	"testing"

	"tipstaff/api"
)

// slow is a step as the document says it.
func slow(c, b uint8) uint8 {
	x := c ^ b
	for range 8 {
		top := x&128 != 0
		x *= 2
		if top {
			x ^= 7
		}
	}
	return x
}

var texts = []string{"", "A", "AB", "é\xffx", "\x00\x00", "a longer text, which has some more bytes", strings.Repeat("zé\x80", 50)}

func TestP4_1_P4_7(t *testing.T) {
	for c := range 256 {
		for b := range 256 {
			if Step(uint8(c), uint8(b)) != slow(uint8(c), uint8(b)) {
				t.Fatal(c, b)
			}
		}
	}
	for _, c := range [][3]uint8{{0, 1, 7}, {0, 128, 137}, {7, 2, 27}, {192, 192, 0}} {
		if Step(c[0], c[1]) != c[2] {
			t.Error(c)
		}
	}
	if Sum("") != 0 || Sum("A") != 192 || Sum("AB") != 135 || Seal("A") != "A\xc0" || Good("A") || !Good("") {
		t.Error("sums")
	}
	for _, s := range texts {
		var c uint8
		for _, b := range []byte(s) {
			c = slow(c, b)
		}
		if Sum(s) != c || !Good(Seal(s)) || Seal(s)[:len(s)] != s || len(Seal(s)) != len(s)+1 || Good(s) != (c == 0) {
			t.Errorf("%q", s)
		}
	}
}

func TestP4_2_P4_6(t *testing.T) {
	for _, x := range texts {
		for _, y := range texts {
			if c, e := Join(Sum(x), Sum(y), len(y)); c != Sum(x+y) || e != api.OK {
				t.Errorf("%q %q", x, y)
			}
		}
	}
	for _, c := range []struct {
		a, b uint8
		n    int
		want uint8
		e    api.Errno
	}{{192, 201, 1, 135, api.OK}, {192, 0, 0, 192, api.OK}, {1, 2, -1, 0, api.ErrRange}, {1, 2, 20001, 0, api.ErrRange}, {0, 2, 20000, 2, api.OK}} {
		if got, e := Join(c.a, c.b, c.n); got != c.want || e != c.e {
			t.Error(c, got, e)
		}
	}
}

func TestP4_3_P4_8(t *testing.T) {
	for _, s := range texts {
		for at := range len(s) {
			for _, want := range []uint8{0, 1, 135, 255, Sum(s)} {
				f, e := Fix(s, at, want)
				if e != api.OK || Sum(f) != want || f[:at] != s[:at] || f[at+1:] != s[at+1:] {
					t.Fatalf("%q %d %d: %q", s, at, want, f)
				}
				if back, _ := Fix(f, at, Sum(s)); back != s || want == Sum(s) && f != s {
					t.Fatalf("%q %d %d: %q", s, at, want, f)
				}
			}
		}
	}
	for _, at := range []int{-1, 2, 1 << 62} {
		if s, e := Fix("AB", at, 0); s != "" || e != api.ErrRange {
			t.Error(at, s, e)
		}
	}
	if s, _ := Fix("AB", 0, 0); s != "wB" {
		t.Error(s)
	}
}

func TestP4_4_P4_9(t *testing.T) {
	for _, s := range texts {
		if got, f := Parse(Hex(s)); got != s || f != (api.Fault{}) {
			t.Errorf("%q %q", s, got)
		}
	}
	if Hex("AB") != "41 42" || Hex("\xff\x0a") != "ff 0a" || Hex("") != "" {
		t.Error(Hex("AB"))
	}
	for s, at := range map[string]int{"41 4": 4, "41  42": 3, "4A": 1, "41 ": 3, "4": 1, " 41": 0, "41x42": 2, "41 42 ": 6, "é1": 0} {
		if got, f := Parse(s); got != "" || f != (api.Fault{Err: api.ErrForm, At: at}) {
			t.Error(s, got, f)
		}
	}
	if s, f := Parse(strings.Repeat("x", 20001)); s != "" || f != (api.Fault{Err: api.ErrLong, At: 20000}) {
		t.Error(f)
	}
	if _, f := Parse(strings.Repeat("00 ", 6666) + "00"); f.Err != api.OK {
		t.Error(f)
	}
}

func TestP4_5(t *testing.T) {
	for _, s := range texts {
		for at := range len(s) {
			for d := 1; d < 256; d++ {
				b := []byte(s)
				b[at] ^= byte(d)
				if Sum(string(b)) == Sum(s) {
					t.Fatalf("%q %d %d", s, at, d)
				}
			}
			if at > 0 {
				b := []byte(s)
				b[at-1] ^= 1
				b[at] ^= 128
				if Sum(string(b)) == Sum(s) {
					t.Fatalf("%q %d", s, at)
				}
			}
		}
	}
}
