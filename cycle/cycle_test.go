package cycle

import (
	"slices"
	"testing"

	"tipstaff/api"
)

var (
	rule = api.DoorRule{Width: 2, Dwell: 1, Retries: 1}
	none api.Cycle
)

func xs(s string) []bool {
	var l []bool
	for _, r := range s {
		l = append(l, r == 'x')
	}
	return l
}

func TestP19_1(t *testing.T) {
	for i, r := range []api.DoorRule{{Width: 0, Dwell: 1}, {Width: 1, Dwell: 51}, {Width: 1, Dwell: 1, Retries: 6}} {
		bad := api.Cycle{At: -1, Door: api.Door{Part: 9}}
		_, a := Begin(r, true)
		_, k := Begin(r, false)
		_, _, b := Step(bad, r, true)
		_, d := Force(bad, r)
		_, f := Left(bad, r)
		_, g := Panels(r, make([]bool, 999))
		_, h := Forced(r, make([]bool, 999), -1)
		if got := []api.Errno{Check(bad, r), a, k, b, d, f, g, h}; slices.ContainsFunc(got, func(e api.Errno) bool { return e != api.ErrRange }) {
			t.Error(i, got)
		}
	}
	opening := api.Door{Part: api.DoorOpening}
	for i, c := range []struct {
		c api.Cycle
		e api.Errno
	}{
		{api.Cycle{Door: api.Door{Part: 6}, At: 99}, api.ErrKind}, {api.Cycle{At: -1, Pass: true}, api.ErrRange}, {api.Cycle{At: 10, Pass: true}, api.ErrRange}, {api.Cycle{Door: opening, Pass: true}, api.ErrForm}, {none, api.ErrForm}, {api.Cycle{Door: api.Door{Part: 1, Tries: 1}}, api.ErrForm}, {api.Cycle{Door: api.Door{Part: 1, Panel: 1}}, api.ErrForm}, {api.Cycle{Door: opening, At: 9}, api.ErrForm}, {api.Cycle{Door: opening, At: 1}, api.ErrForm}, {api.Cycle{Door: api.Door{Part: 5, Panel: 2}, At: 8}, api.ErrForm},
		{api.Cycle{Door: opening}, api.OK}, {api.Cycle{At: 3}, api.OK}, {api.Cycle{Pass: true}, api.OK}, {api.Cycle{At: 9, Pass: true}, api.OK}, {api.Cycle{Door: api.Door{Part: 5, Panel: 2}, At: 7}, api.OK}, {api.Cycle{Door: api.Door{Part: 1, Panel: 1, Tries: 1}, At: 4}, api.OK},
	} {
		if e := Check(c.c, rule); e != c.e {
			t.Error(i, e)
		}
		if c.e == api.OK {
			continue
		}
		a, _, e := Step(c.c, rule, false)
		b, f := Force(c.c, rule)
		n, g := Left(c.c, rule)
		if a != none || b != none || n != 0 || e != c.e || f != c.e || g != c.e {
			t.Error(i, a, b, n, e, f, g)
		}
	}
	if c, e := Begin(rule, true); c != (api.Cycle{Door: opening}) || e != api.OK {
		t.Error(c, e)
	}
	if c, e := Begin(rule, false); c != (api.Cycle{Pass: true}) || e != api.OK {
		t.Error(c, e)
	}
}

func TestP19_2_P19_7(t *testing.T) {
	c, _ := Begin(rule, false)
	for i := range 9 {
		if n, e := Left(c, rule); n != 9-i || e != api.OK {
			t.Error(i, n, e)
		}
		next, opened, e := Step(c, rule, true)
		if next != (api.Cycle{At: i + 1, Pass: true}) || opened || e != api.OK {
			t.Error(i, next, opened, e)
		}
		c = next
	}
	if n, opened, e := Step(c, rule, true); n != none || opened || e != api.ErrState {
		t.Error(n, opened, e)
	}
	o, _ := Begin(rule, true)
	if f, e := Force(o, rule); f != (api.Cycle{Pass: true}) || e != api.OK {
		t.Error(f, e)
	}
	a, x, _ := Step(o, rule, false)
	b, y, _ := Step(a, rule, false)
	if x || !y || b != (api.Cycle{Door: api.Door{Part: 2, Panel: 2, Left: 1}, At: 2}) {
		t.Error(a, b, x, y)
	}
	if f, e := Force(b, rule); f != (api.Cycle{Door: api.Door{Part: 5, Panel: 2}, At: 2}) || e != api.OK {
		t.Error(f, e)
	}
}

func TestP19_3_P19_8(t *testing.T) {
	for s, want := range map[string][]int{"": {1, 2, 2, 1, 0, 0, 0, 0, 0}, "---x": {1, 2, 2, 2, 2, 1, 0, 0, 0}, "----x": {1, 2, 2, 1, 1, 2, 2, 1, 0}, "---xxx": {1, 2, 2, 2, 2, 1, 0, 0, 0}} {
		if l, e := Panels(rule, xs(s)); !slices.Equal(l, want) || e != api.OK {
			t.Error(s, l, e)
		}
	}
	for i, want := range [][]int{{0, 0, 0, 0, 0, 0, 0, 0, 0}, {1, 0, 0, 0, 0, 0, 0, 0, 0}, {1, 2, 1, 0, 0, 0, 0, 0, 0}} {
		if l, e := Forced(rule, nil, i); !slices.Equal(l, want) || e != api.OK {
			t.Error(i, l, e)
		}
	}
	for i, c := range []struct {
		n, at int
		e     api.Errno
	}{{0, 9, api.ErrRange}, {0, -1, api.ErrRange}, {10, -1, api.ErrLong}} {
		if l, e := Forced(rule, make([]bool, c.n), c.at); l != nil || e != c.e {
			t.Error(i, l, e)
		}
	}
	if l, e := Panels(rule, make([]bool, 10)); l != nil || e != api.ErrLong {
		t.Error(l, e)
	}
	if l, e := Panels(rule, make([]bool, 9)); len(l) != 9 || e != api.OK {
		t.Error(l, e)
	}
	wide := api.DoorRule{Width: 4, Dwell: 3, Retries: 2}
	l, _ := Panels(wide, nil)
	for u, p := range l {
		if (p == 4) != (u >= 3 && u <= 6) || u >= 10 && p != 0 {
			t.Error(u, l)
		}
	}
}

func TestP19_4_P19_5_P19_6(t *testing.T) {
	for x := range 1 << 9 {
		var o []bool
		for i := range 9 {
			o = append(o, x>>i&1 == 1)
		}
		l, _ := Panels(rule, o)
		c, _ := Begin(rule, true)
		for u := range 9 {
			before := c.Door.Panel
			next, _, e := Step(c, rule, o[u])
			if e != api.OK || Check(next, rule) != api.OK || next.Door.Panel != l[u] || l[u] > 9-u-1 || max(l[u]-before, before-l[u]) > 1 {
				t.Fatal(x, u, next, l, e)
			}
			forced, e := Forced(rule, o, u)
			if e != api.OK || len(forced) != 9 || !slices.Equal(forced[:u], l[:u]) {
				t.Fatal(x, u, forced)
			}
			for v := u; v < 9; v++ {
				if forced[v] != max(before-(v-u)-1, 0) {
					t.Fatal(x, u, forced)
				}
			}
			c = next
		}
		if len(l) != 9 || l[8] != 0 || c.Door != (api.Door{}) {
			t.Fatal(x, l)
		}
	}
}
