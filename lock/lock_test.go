package lock

import (
	"slices"
	"strings"
	"testing"

	"tipstaff/api"
)

func parse(t *testing.T, s string) api.Chain {
	c, f := Parse(s)
	if f != (api.Fault{}) {
		t.Fatal(s, f)
	}
	return c
}

func text(c api.Chain) string {
	s, e := Text(c)
	if e != api.OK {
		return e.Error()
	}
	return s
}

func empty(c api.Chain) bool { return !c.Car && len(c.Landings) == 0 }

func TestP17_1_P17_5(t *testing.T) {
	for _, n := range []int{1, 65, -1, 0} {
		if c, e := New(n); !empty(c) || e != api.ErrRange {
			t.Error(n, c, e)
		}
	}
	if c, e := New(4); text(c) != "x|xxxx" || e != api.OK {
		t.Error(c, e)
	}
	for i, c := range []struct {
		c api.Chain
		e api.Errno
	}{{api.Chain{}, api.ErrRange}, {api.Chain{Car: true, Landings: []bool{true}}, api.ErrRange}, {api.Chain{Car: true, Landings: make([]bool, 65)}, api.ErrRange}, {api.Chain{Car: true, Landings: []bool{true, false}}, api.ErrState}, {api.Chain{Landings: []bool{false, false}}, api.ErrState}, {api.Chain{Landings: []bool{true, false}}, api.OK}, {api.Chain{Landings: []bool{true, true}}, api.OK}} {
		if e := Check(c.c); e != c.e {
			t.Error(i, e)
		}
		if c.e == api.OK {
			continue
		}
		_, a := Unlock(c.c, -1)
		_, b := Lock(c.c)
		_, _, d := Slam(c.c)
		_, f := May(c.c)
		_, g := Missing(c.c)
		_, h := Open(c.c)
		_, j := Text(c.c)
		if got := []api.Errno{a, b, d, f, g, h, j}; slices.ContainsFunc(got, func(e api.Errno) bool { return e != c.e }) {
			t.Error(i, got)
		}
	}
}

func TestP17_2_P17_6_P17_9(t *testing.T) {
	c, _ := New(4)
	for f := range 4 {
		u, e := Unlock(c, f)
		m, _ := Missing(u)
		may, _ := May(u)
		l, g := Lock(u)
		s, floor, h := Slam(u)
		run, _ := May(s)
		if e+g+h != api.OK || !slices.Equal(m, []int{-1, f}) || may || text(l) != "x|xxxx" || text(s) != "o|xxxx" || floor != f || run || Check(u) != api.OK {
			t.Error(f, u, e, m, may, l, s, floor)
		}
		if text(c) != "x|xxxx" {
			t.Fatal("changed")
		}
	}
	for i, x := range []struct {
		s     string
		floor int
		e     api.Errno
	}{{"o|xxxx", 1, api.ErrState}, {"o|xxox", 1, api.ErrState}, {"x|xxxx", 4, api.ErrRange}, {"o|xxxx", -1, api.ErrRange}} {
		if u, e := Unlock(parse(t, x.s), x.floor); !empty(u) || e != x.e {
			t.Error(i, u, e)
		}
	}
	for _, s := range []string{"x|xxxx", "o|xxxx"} {
		if u, n, e := Slam(parse(t, s)); !empty(u) || n != 0 || e != api.ErrMissing {
			t.Error(s, u, n, e)
		}
	}
	if l, e := Lock(parse(t, "o|xxxx")); text(l) != "x|xxxx" || e != api.OK {
		t.Error(l, e)
	}
}

func TestP17_3_P17_7(t *testing.T) {
	for s, want := range map[string][]int{"x|xxxx": nil, "o|xxox": {-1, 2}, "o|xxxx": {-1}, "o|oxxx": {-1, 0}} {
		c := parse(t, s)
		m, e := Missing(c)
		may, f := May(c)
		n, g := Open(c)
		if !slices.Equal(m, want) || e+f != api.OK || may != (len(want) == 0) || may && (n != 0 || g != api.ErrMissing) || !may && (n != -1 || g != api.OK) {
			t.Error(s, m, may, n, g)
		}
	}
	for i, c := range []struct {
		floors, floor, panel int
		want                 string
		e                    api.Errno
	}{{4, 1, 0, "x|xxxx", api.OK}, {4, 1, 3, "o|xoxx", api.OK}, {4, 1, 20, "o|xoxx", api.OK}, {4, 1, 21, "", api.ErrRange}, {4, 1, -1, "", api.ErrRange}, {4, 4, 0, "", api.ErrRange}, {4, -1, 0, "", api.ErrRange}, {1, 0, 0, "", api.ErrRange}, {65, 0, 0, "", api.ErrRange}} {
		x, e := Of(c.floors, c.floor, c.panel)
		if e != c.e || e == api.OK && text(x) != c.want || e != api.OK && !empty(x) {
			t.Error(i, x, e)
		}
	}
}

func TestP17_4_P17_8(t *testing.T) {
	for _, s := range []string{"x|xx", "o|xx", "o|xo", "o|oxxxxx", "x|" + strings.Repeat("x", 64)} {
		if text(parse(t, s)) != s {
			t.Error(s)
		}
	}
	for s, want := range map[string]api.Fault{"x|xxox": {Err: api.ErrState}, "o|oo": {Err: api.ErrState}, "x|x": {Err: api.ErrRange}, "xx|": {Err: api.ErrForm, At: 1}, "o": {Err: api.ErrForm, At: 1}, "": {Err: api.ErrForm}, "y|xx": {Err: api.ErrForm}, "|xx": {Err: api.ErrForm}, "x|xyx": {Err: api.ErrForm, At: 3}, "x|xx|": {Err: api.ErrForm, At: 4}, "x|": {Err: api.ErrRange}, "x|xé": {Err: api.ErrForm, At: 3}, "x|" + strings.Repeat("x", 65): {Err: api.ErrRange}, "x|o\xff": {Err: api.ErrForm, At: 3}} {
		if c, f := Parse(s); !empty(c) || f != want {
			t.Error(s, c, f)
		}
	}
}

func TestP17Bounds(t *testing.T) {
	if c, e := Of(2, 0, 1); text(c) != "o|ox" || e != api.OK {
		t.Error(c, e)
	}
	if c, e := Of(64, 63, 0); len(c.Landings) != 64 || e != api.OK {
		t.Error(c, e)
	}
}
