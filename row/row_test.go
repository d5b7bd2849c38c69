package row

import (
	"reflect"
	"strings"
	"testing"

	"tipstaff/api"
)

func name(at int, s string) api.RowWord    { return api.RowWord{At: at, Kind: api.IsName, Name: s} }
func text(at int, s string) api.RowWord    { return api.RowWord{At: at, Kind: api.IsText, Name: s} }
func num(at, n int) api.RowWord            { return api.RowWord{At: at, Kind: api.IsNumber, N: n} }
func row(at int, w ...api.RowWord) api.Row { return api.Row{At: at, Words: w} }

func bare(rows []api.Row) []api.Row {
	var l []api.Row
	for _, r := range rows {
		var n api.Row
		for _, w := range r.Words {
			w.At = 0
			n.Words = append(n.Words, w)
		}
		l = append(l, n)
	}
	return l
}

func TestP3_1_P3_7(t *testing.T) {
	for s, want := range map[string][]api.Row{
		"a 1 \"b c\"":                     {row(0, name(0, "a"), num(2, 1), text(4, "b c"))},
		" x  -12 # \"":                    {row(0, name(1, "x"), num(4, -12))},
		"# 1":                             nil,
		"":                                nil,
		"\n\t \n":                         nil,
		"a\n\tb2-\t\n#\n0":                {row(0, name(0, "a")), row(2, name(3, "b2-")), row(10, num(10, 0))},
		"1099511627776":                   {row(0, num(0, 1<<40))},
		"-1099511627776":                  {row(0, num(0, -(1<<40)))},
		"\"\\x41\\xC3\\xa9 # \"":          {row(0, text(0, "Aé # "))},
		"\"\" \"\\\\\"":                   {row(0, text(0, ""), text(3, "\\"))},
		"abcdefghijklmnop":                {row(0, name(0, "abcdefghijklmnop"))},
		strings.Repeat(" ", 1000) + "\na": {row(1001, name(1001, "a"))},
	} {
		if rows, f := Rows(s); !reflect.DeepEqual(rows, want) || f != (api.Fault{}) {
			t.Errorf("%q: %v %v", s, rows, f)
		}
	}
	for s, want := range map[string]api.Fault{
		"a 01": {Err: api.ErrForm, At: 2}, "a -0": {Err: api.ErrForm, At: 2}, "a b\"": {Err: api.ErrForm, At: 2}, "a \"b": {Err: api.ErrForm, At: 2}, "\"a\"b": {Err: api.ErrForm, At: 0},
		"1099511627777": {Err: api.ErrForm, At: 0}, "-1099511627777": {Err: api.ErrForm, At: 0}, "99999999999999": {Err: api.ErrForm, At: 0}, "a\n b#": {Err: api.ErrForm, At: 3}, "abcdefghijklmnopq": {Err: api.ErrForm, At: 0}, "-": {Err: api.ErrForm, At: 0}, "1a": {Err: api.ErrForm, At: 0}, "é": {Err: api.ErrForm, At: 0}, "a\r": {Err: api.ErrForm, At: 0},
		"\"a\tb\"": {Err: api.ErrForm, At: 0}, "\"\xff\"": {Err: api.ErrForm, At: 0}, "\"\\x4\"": {Err: api.ErrForm, At: 0}, "\"\u0085\"": {Err: api.ErrForm, At: 0}, "\"a\\\"": {Err: api.ErrForm, At: 0}, "\"\x7f\"": {Err: api.ErrForm, At: 0}, "a \"\"\"\"": {Err: api.ErrForm, At: 2},
		strings.Repeat(" ", 20001):          {Err: api.ErrLong, At: 20000},
		"a\n" + strings.Repeat(" ", 1001):   {Err: api.ErrLong, At: 2},
		"01\n" + strings.Repeat(" ", 1001):  {Err: api.ErrForm, At: 0},
		"a\n01" + strings.Repeat(" ", 1001): {Err: api.ErrLong, At: 2},
		strings.Repeat(" ", 1001) + "\n01":  {Err: api.ErrLong, At: 0},
	} {
		if rows, f := Rows(s); rows != nil || f != want {
			t.Errorf("%q: %v %v", s, rows, f)
		}
	}
	a, _ := Rows("a 1\n\"x\"")
	b, _ := Rows("  a\t1 # x\n\n#\n \"x\" \n")
	if !reflect.DeepEqual(bare(a), bare(b)) {
		t.Error(a, b)
	}
}

func TestP3_2_P3_6(t *testing.T) {
	for _, c := range []struct {
		w api.RowWord
		e api.Errno
	}{{name(5, "a-1"), api.OK}, {name(0, ""), api.ErrForm}, {name(0, "1"), api.ErrForm}, {api.RowWord{Kind: 1, Name: "a", N: 1}, api.ErrForm}, {num(0, 1<<40), api.OK}, {num(0, 1<<40+1), api.ErrForm}, {num(0, -1<<63), api.ErrForm}, {api.RowWord{Kind: 2, Name: "a"}, api.ErrForm}, {text(0, "\xff\n"), api.OK}, {api.RowWord{Kind: 3, N: 1}, api.ErrForm}, {api.RowWord{}, api.ErrKind}, {api.RowWord{Kind: 4}, api.ErrKind}} {
		if e := Sound(c.w); e != c.e {
			t.Error(c, e)
		}
	}
	rows := []api.Row{row(9, name(7, "ab"), num(3, -5)), row(0, text(0, "a\"\x00é\xff\n\u0085"))}
	s, e := Text(rows)
	if s != "ab -5\n\"a\\\"\\x00é\\xff\\x0a\\xc2\\x85\"\n" || e != api.OK {
		t.Error(s, e)
	}
	back, f := Rows(s)
	if f.Err != api.OK || !reflect.DeepEqual(bare(back), bare(rows)) {
		t.Error(back, f)
	}
	long := func(n int) api.Row { return row(0, text(0, strings.Repeat("a", n-2))) }
	var many []api.Row
	for range 20 {
		many = append(many, long(999))
	}
	if s, e := Text(many); len(s) != 20000 || e != api.OK {
		t.Error(len(s), e)
	}
	for i, c := range []struct {
		l []api.Row
		e api.Errno
	}{{nil, api.OK}, {[]api.Row{long(1000)}, api.OK}, {[]api.Row{long(1001)}, api.ErrLong}, {append(many, row(0, num(0, 1))), api.ErrLong}, {[]api.Row{{}}, api.ErrForm}, {[]api.Row{long(1001), {}}, api.ErrLong}, {[]api.Row{row(0, num(0, 1), api.RowWord{}), {}}, api.ErrKind}, {[]api.Row{row(0, text(0, strings.Repeat("a", 2000)), num(0, 1<<41))}, api.ErrForm}} {
		if s, e := Text(c.l); e != c.e || e != api.OK && s != "" {
			t.Error(i, s, e)
		}
	}
}

func TestP3_3_P3_5_P3_8(t *testing.T) {
	for s, want := range map[string]string{"a\"\x00é": `"a\"\x00é"`, "\xc3A": `"\xc3A"`, "\u0085": `"\xc2\x85"`, "\u00a0": "\"\u00a0\"", "\ufffd": "\"\ufffd\"", "\\~\x7f": `"\\~\x7f"`, "": `""`} {
		if Quote(s) != want {
			t.Errorf("%q: %s", s, Quote(s))
		}
	}
	seen := map[string]string{}
	for i := range 1 << 16 {
		s := string([]byte{byte(i), byte(i >> 8), 0xbf})
		q := Quote(s)
		if back, e := Unquote(q); back != s || e != api.OK || strings.ContainsFunc(q, func(r rune) bool { return r < ' ' }) {
			t.Fatalf("%q: %q %v", s, back, e)
		}
		if o, ok := seen[q]; ok && o != s {
			t.Fatal(q)
		}
		seen[q] = s
	}
	if s, e := Unquote(`"\x41\xC3\xa9"`); s != "Aé" || e != api.OK {
		t.Error(s, e)
	}
	for _, s := range []string{`"a`, "\"\n\"", "", `a`, `"a" `, `"a"b"`, `"\X41"`, `"\x4g"`, `"\n"`, `"`, `"\x`, `"\`} {
		if got, e := Unquote(s); got != "" || e != api.ErrForm {
			t.Errorf("%q: %q %v", s, got, e)
		}
	}
	for s, want := range map[string]bool{"a": true, "Z9-": true, "": false, "9": false, "-a": false, "a_": false, "aé": false, "abcdefghijklmnopq": false} {
		if Name(s) != want {
			t.Error(s)
		}
	}
}

func TestP3_4(t *testing.T) {
	for i, c := range []struct {
		w         api.RowWord
		low, high int
		n         int
		e         api.Errno
	}{{num(0, 5), 0, 5, 5, api.OK}, {num(0, 6), 0, 5, 0, api.ErrRange}, {num(0, -1), 0, 5, 0, api.ErrRange}, {name(0, "a"), 0, 5, 0, api.ErrKind}, {name(0, "1"), 0, 5, 0, api.ErrForm}, {api.RowWord{}, 0, 5, 0, api.ErrKind}} {
		if n, e := Int(c.w, c.low, c.high); n != c.n || e != c.e {
			t.Error(i, n, e)
		}
	}
	names := []string{"a", "b", "a"}
	for i, c := range []struct {
		w api.RowWord
		n int
		e api.Errno
	}{{name(0, "a"), 0, api.OK}, {name(0, "b"), 1, api.OK}, {name(0, "c"), 0, api.ErrMissing}, {text(0, "a"), 0, api.ErrKind}, {num(0, 1), 0, api.ErrKind}, {name(0, ""), 0, api.ErrForm}} {
		if n, e := Which(c.w, names); n != c.n || e != c.e {
			t.Error(i, n, e)
		}
	}
}

func TestP3Bounds(t *testing.T) {
	for _, s := range []string{"a", "z", "A", "Z", "aazZ-09"} {
		if !Name(s) {
			t.Error(s)
		}
	}
	for _, s := range []string{"`", "{", "@", "[", "a/", "a:"} {
		if Name(s) {
			t.Error(s)
		}
	}
	for s, want := range map[string]string{`"\xAF\xaf\x09\x90"`: "\xaf\xaf\x09\x90", `"\\\""`: "\\\"", `" ~"`: " ~", "\"\u00a0\"": "\u00a0"} {
		if got, e := Unquote(s); got != want || e != api.OK {
			t.Errorf("%s: %q %v", s, got, e)
		}
	}
	for _, s := range []string{`"\xG0"`, `"\x0@"`, `"\x"`, `"\x1"`, "\"\u009f\"", "\"\x1f\""} {
		if got, e := Unquote(s); got != "" || e != api.ErrForm {
			t.Errorf("%s: %q %v", s, got, e)
		}
	}
	if Quote(" ~\u00a0\u009f") != "\" ~\u00a0\\xc2\\x9f\"" {
		t.Error(Quote(" ~\u00a0\u009f"))
	}
	if _, f := Rows(strings.Repeat("#\n", 10000)); f != (api.Fault{}) {
		t.Error(f)
	}
	many := []api.Row{}
	for range 20 {
		many = append(many, row(0, text(0, strings.Repeat("a", 997))))
	}
	many[0].Words[0].Name += "a"
	if s, e := Text(many); s != "" || e != api.ErrLong {
		t.Error(len(s), e)
	}
	for n, want := range map[int]api.Errno{3: api.ErrRange, 4: api.OK, 6: api.OK, 7: api.ErrRange} {
		if _, e := Int(num(0, n), 4, 6); e != want {
			t.Error(n, e)
		}
	}
}
