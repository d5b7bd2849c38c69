package call

import (
	"slices"
	"testing"

	"tipstaff/api"
)

var none api.Call

func of(kind, floor, car, at int) api.Call {
	return api.Call{Kind: kind, Floor: floor, Car: car, At: at}
}

func calls(t *testing.T, texts ...string) []api.Call {
	var l []api.Call
	for _, s := range texts {
		c, e := Parse(s)
		if e != api.OK {
			t.Fatal(s, e)
		}
		l = append(l, c)
	}
	return l
}

func TestP20_1_P20_5(t *testing.T) {
	for i, c := range []struct {
		c api.Call
		e api.Errno
	}{{of(1, 63, 0, 1<<40), api.OK}, {of(3, 0, 8, 0), api.OK}, {of(4, 99, 0, 0), api.ErrKind}, {of(0, 0, 0, 0), api.ErrKind}, {of(1, 64, 0, 0), api.ErrRange}, {of(1, -1, 0, 0), api.ErrRange}, {of(1, 0, 1, 0), api.ErrRange}, {of(2, 0, -1, 0), api.ErrRange}, {of(3, 0, 0, 0), api.ErrRange}, {of(3, 0, 9, 0), api.ErrRange}, {of(1, 0, 0, -1), api.ErrRange}, {of(1, 0, 0, 1<<40+1), api.ErrRange}} {
		if e := Check(c.c); e != c.e {
			t.Error(i, e)
		}
		if c.e == api.OK {
			continue
		}
		ok := of(1, 1, 0, 1)
		_, a := Serves(c.c, -1, 0)
		_, b := Age(c.c, -1)
		_, d := Sort([]api.Call{ok, c.c})
		_, f := Merge([]api.Call{ok}, []api.Call{c.c, {Kind: 9}})
		_, g := Text(c.c)
		if got := []api.Errno{a, b, d, f, g}; slices.ContainsFunc(got, func(e api.Errno) bool { return e != c.e }) {
			t.Error(i, got)
		}
	}
	for i, c := range []struct {
		a, b string
		want int
	}{{"u3@5", "d1@4", 1}, {"u3@5", "d1@5", -1}, {"c1:4@5", "c2:0@5", 1}, {"u3@5", "u3@5", 0}, {"c1:4@5", "c2:4@5", -1}, {"u3@4", "u3@5", -1}} {
		l := calls(t, c.a, c.b)
		if Compare(l[0], l[1]) != c.want || Compare(l[1], l[0]) != -c.want || c.want == 0 && !Same(l[0], l[1]) {
			t.Error(i)
		}
	}
	if !Same(of(1, 3, 0, 5), of(1, 3, 0, 9)) || Same(of(1, 3, 0, 5), of(2, 3, 0, 5)) || Same(of(3, 3, 1, 5), of(3, 3, 2, 5)) || Same(of(1, 3, 0, 5), of(1, 4, 0, 5)) || !Same(of(9, -1, 7, 0), of(9, -1, 7, 1)) || Compare(of(0, 0, 0, -1<<63), of(0, 0, 0, 1<<62)) != -1 {
		t.Error("Same")
	}
}

func TestP20_2_P20_8_P20_9(t *testing.T) {
	for i, c := range []struct {
		s          string
		floor, car int
		want       bool
		e          api.Errno
	}{{"u3@5", 3, 7, true, api.OK}, {"d3@5", 3, 1, true, api.OK}, {"u3@5", 2, 7, false, api.OK}, {"c2:3@5", 3, 7, false, api.OK}, {"c2:3@5", 3, 2, true, api.OK}, {"c2:3@5", 4, 2, false, api.OK}, {"u3@5", 3, 0, false, api.ErrRange}, {"u3@5", 3, 9, false, api.ErrRange}, {"u3@5", 64, 1, false, api.ErrRange}, {"u3@5", -1, 1, false, api.ErrRange}} {
		if got, e := Serves(calls(t, c.s)[0], c.floor, c.car); got != c.want || e != c.e {
			t.Error(i, got, e)
		}
	}
	for i, c := range []struct {
		now, n int
		e      api.Errno
	}{{9, 4, api.OK}, {10, 5, api.OK}, {5, 0, api.OK}, {4, 0, api.ErrOrder}, {-1, 0, api.ErrRange}, {1<<40 + 1, 0, api.ErrRange}} {
		if n, e := Age(of(1, 3, 0, 5), c.now); n != c.n || e != c.e {
			t.Error(i, n, e)
		}
	}
}

func TestP20_3_P20_6(t *testing.T) {
	l := calls(t, "u3@5", "d1@4", "c2:0@5", "u3@5", "c1:4@5", "u0@5")
	want := calls(t, "d1@4", "u0@5", "u3@5", "u3@5", "c2:0@5", "c1:4@5")
	s, e := Sort(l)
	if !slices.Equal(s, want) || e != api.OK || l[0].Floor != 3 {
		t.Error(s, e)
	}
	back := slices.Clone(l)
	slices.Reverse(back)
	if r, _ := Sort(back); !slices.Equal(r, want) {
		t.Error(r)
	}
	a, b := calls(t, "u3@5", "d1@4"), calls(t, "u3@2", "c1:1@9")
	m, e := Merge(a, b)
	n, _ := Merge(b, a)
	if !slices.Equal(m, calls(t, "u3@2", "d1@4", "c1:1@9")) || e != api.OK || !slices.Equal(m, n) {
		t.Error(m, n, e)
	}
	if same, _ := Merge(m, m); !slices.Equal(same, m) {
		t.Error(same)
	}
	if x, _ := Merge(calls(t, "u3@5", "u3@4"), nil); !slices.Equal(x, calls(t, "u3@4")) {
		t.Error(x)
	}
}

func TestP20_4_P20_7(t *testing.T) {
	seen := map[string]bool{}
	for _, c := range []api.Call{of(1, 3, 0, 17), of(3, 5, 2, 0), of(2, 63, 0, 1<<40), of(1, 0, 0, 0), of(3, 10, 8, 100)} {
		s, e := Text(c)
		if d, f := Parse(s); d != c || e != api.OK || f != api.OK || seen[s] {
			t.Error(s, d, e, f)
		}
		seen[s] = true
	}
	for _, s := range []string{"u3@17", "c2:5@0", "d63@1099511627776"} {
		if !seen[s] {
			t.Error(s)
		}
	}
	for s, want := range map[string]api.Errno{"u64@0": api.ErrRange, "u03@0": api.ErrForm, "c9:1@0": api.ErrRange, "c0:1@0": api.ErrRange, "u3": api.ErrForm, "x3@0": api.ErrForm, "c2@0": api.ErrForm, "u3@1099511627777": api.ErrRange, "": api.ErrForm, "u": api.ErrForm, "u@1": api.ErrForm, "u1@": api.ErrForm, "u1:2@3": api.ErrForm, "c1:2:3@4": api.ErrForm, "c1:2@3@4": api.ErrForm, "u1@2 ": api.ErrForm, "u00@0": api.ErrForm, "u1@9999999999999": api.ErrRange, "u1@10000000000000": api.ErrForm, "u9999999999999@0": api.ErrRange, "u-1@0": api.ErrForm, "c:1@0": api.ErrForm, "U1@0": api.ErrForm, "u1@0\x00": api.ErrForm, "ué": api.ErrForm} {
		if c, e := Parse(s); c != none || e != want {
			t.Errorf("%q: %v %v", s, c, e)
		}
	}
}

func TestP20Marks(t *testing.T) {
	for _, s := range []string{"c1@2@3", "c1@2:3", "u1:2", "u1:2@3", "c1:2:3", "c1:2@3:", "u1@2@", "u1@2:", "c1:", "c1:2", "c1:2@"} {
		if c, e := Parse(s); c != none || e != api.ErrForm {
			t.Error(s, c, e)
		}
	}
}
