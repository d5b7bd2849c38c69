package door

import (
	"slices"
	"testing"

	"tipstaff/api"
)

var (
	rule = api.DoorRule{Width: 2, Dwell: 3, Retries: 1}
	none api.Door
)

func of(part, panel, left, tries int) api.Door {
	return api.Door{Part: part, Panel: panel, Left: left, Tries: tries}
}

// all are the valid doors of a rule.
func all(r api.DoorRule) []api.Door {
	var l []api.Door
	for part := range 6 {
		for panel := 0; panel <= r.Width; panel++ {
			for left := 0; left <= r.Dwell; left++ {
				for tries := 0; tries <= r.Retries; tries++ {
					if d := of(part, panel, left, tries); Check(d, r) == api.OK {
						l = append(l, d)
					}
				}
			}
		}
	}
	return l
}

func TestP18_1(t *testing.T) {
	for i, r := range []api.DoorRule{{Width: 0, Dwell: 1}, {Width: 21, Dwell: 1}, {Width: 1, Dwell: 0}, {Width: 1, Dwell: 51}, {Width: 1, Dwell: 1, Retries: -1}, {Width: 1, Dwell: 1, Retries: 6}} {
		_, a := Open(of(9, 0, 0, 0), r)
		_, _, b := Step(of(9, 0, 0, 0), r, true)
		_, d := Force(of(9, 0, 0, 0), r)
		_, f := Worst(r)
		_, _, g := Rest(of(9, 0, 0, 0), r)
		_, _, h := Run(of(9, 0, 0, 0), r, make([]bool, 1001))
		if got := []api.Errno{Rule(r), Check(of(9, 0, 0, 0), r), a, b, d, f, g, h}; slices.ContainsFunc(got, func(e api.Errno) bool { return e != api.ErrRange }) {
			t.Error(i, got)
		}
	}
	for i, c := range []struct {
		d api.Door
		e api.Errno
	}{
		{of(6, 9, 0, 0), api.ErrKind}, {of(-1, 0, 0, 0), api.ErrKind}, {of(0, 3, 0, 0), api.ErrRange}, {of(0, -1, 0, 0), api.ErrRange}, {of(2, 2, 4, 0), api.ErrRange}, {of(2, 2, -1, 0), api.ErrRange}, {of(3, 1, 0, 2), api.ErrRange}, {of(3, 1, 0, -1), api.ErrRange},
		{of(0, 1, 0, 0), api.ErrForm}, {of(0, 0, 0, 1), api.ErrForm}, {of(1, 2, 0, 0), api.ErrForm}, {of(2, 1, 1, 0), api.ErrForm}, {of(2, 2, 0, 0), api.ErrForm}, {of(3, 0, 0, 0), api.ErrForm}, {of(3, 1, 1, 0), api.ErrForm}, {of(4, 1, 0, 0), api.ErrForm}, {of(4, 0, 0, 1), api.ErrForm}, {of(5, 0, 0, 0), api.ErrForm},
		{none, api.OK}, {of(1, 0, 0, 1), api.OK}, {of(2, 2, 3, 1), api.OK}, {of(3, 2, 0, 0), api.OK}, {of(4, 1, 0, 1), api.OK}, {of(5, 2, 0, 1), api.OK},
	} {
		if e := Check(c.d, rule); e != c.e {
			t.Error(i, e)
		}
		if c.e == api.OK {
			continue
		}
		_, a := Open(c.d, rule)
		_, _, b := Step(c.d, rule, true)
		_, d := Force(c.d, rule)
		_, _, f := Rest(c.d, rule)
		_, _, g := Run(c.d, rule, make([]bool, 1001))
		if got := []api.Errno{a, b, d, f, g}; slices.ContainsFunc(got, func(e api.Errno) bool { return e != c.e }) {
			t.Error(i, got)
		}
	}
}

func TestP18_2_P18_5(t *testing.T) {
	if d, e := Open(none, rule); d != of(1, 0, 0, 0) || e != api.OK {
		t.Error(d, e)
	}
	if d, e := Open(of(1, 0, 0, 0), rule); d != none || e != api.ErrState {
		t.Error(d, e)
	}
	for i, c := range []struct {
		d, next api.Door
		x, open bool
	}{
		{none, none, true, false}, {of(1, 0, 0, 0), of(1, 1, 0, 0), true, false}, {of(1, 1, 0, 0), of(2, 2, 3, 0), false, true}, {of(2, 2, 1, 0), of(3, 2, 0, 0), true, false}, {of(2, 2, 2, 0), of(2, 2, 1, 0), true, false}, {of(3, 2, 0, 0), of(3, 1, 0, 0), false, false}, {of(3, 1, 0, 1), none, false, false},
		{of(3, 1, 0, 0), of(1, 1, 0, 1), true, false}, {of(3, 2, 0, 0), of(2, 2, 3, 1), true, false}, {of(3, 1, 0, 1), none, true, false}, {of(3, 2, 0, 1), of(4, 1, 0, 1), true, false}, {of(4, 1, 0, 1), none, true, false}, {of(4, 2, 0, 1), of(4, 1, 0, 1), false, false}, {of(5, 2, 0, 0), of(5, 1, 0, 0), true, false}, {of(5, 1, 0, 1), none, true, false},
	} {
		if next, open, e := Step(c.d, rule, c.x); next != c.next || open != c.open || e != api.OK {
			t.Error(i, next, open, e)
		}
	}
	for _, d := range all(rule) {
		for _, x := range []bool{false, true} {
			if n, _, _ := Step(d, rule, x); Check(n, rule) != api.OK || max(n.Panel-d.Panel, d.Panel-n.Panel) > 1 {
				t.Error(d, n)
			}
		}
		f, e := Force(d, rule)
		if e != api.OK || f.Panel != d.Panel || f.Left+f.Tries != 0 || d.Panel > 0 && f.Part != api.DoorForced || d.Panel == 0 && f != none {
			t.Error(d, f, e)
		}
	}
	for _, c := range [][2]int{{1, 13}, {0, 7}} {
		if n, e := Worst(api.DoorRule{Width: 2, Dwell: 3, Retries: c[0]}); n != c[1] || e != api.OK {
			t.Error(n, e)
		}
	}
}

// most is how many ticks a door takes at most, found by trying all obstructions.
func most(d api.Door, r api.DoorRule, seen map[api.Door]int) int {
	if d == none {
		return 0
	}
	if n, ok := seen[d]; ok {
		return n
	}
	a, _, _ := Step(d, r, false)
	b, _, _ := Step(d, r, true)
	seen[d] = 1 + max(most(a, r, seen), most(b, r, seen))
	return seen[d]
}

func TestP18_3_P18_6_P18_8(t *testing.T) {
	for _, r := range []api.DoorRule{rule, {Width: 1, Dwell: 1, Retries: 0}, {Width: 5, Dwell: 4, Retries: 5}, {Width: 1, Dwell: 9, Retries: 3}, {Width: 20, Dwell: 2, Retries: 2}} {
		seen := map[api.Door]int{}
		for _, d := range all(r) {
			least := 0
			for n := d; n != none; least++ {
				n, _, _ = Step(n, r, false)
			}
			a, b, e := Rest(d, r)
			if a != least || b != most(d, r, seen) || e != api.OK {
				t.Error(r, d, a, b, least)
			}
			if d.Part == api.DoorForced && b != d.Panel {
				t.Error(d, b)
			}
		}
		open, _ := Open(none, r)
		if n, _ := Worst(r); n != most(open, r, seen) {
			t.Error(r, n)
		}
	}
	for i, c := range []struct {
		d           api.Door
		least, most int
	}{{of(1, 0, 0, 0), 7, 13}, {of(3, 2, 0, 1), 2, 2}, {none, 0, 0}} {
		if a, b, e := Rest(c.d, rule); a != c.least || b != c.most || e != api.OK {
			t.Error(i, a, b, e)
		}
	}
}

func TestP18_4_P18_7_P18_9(t *testing.T) {
	open, _ := Open(none, rule)
	if d, l, e := Run(open, rule, make([]bool, 7)); d != none || !slices.Equal(l, []int{1}) || e != api.OK {
		t.Error(d, l, e)
	}
	if d, l, e := Run(open, rule, []bool{false, false, false, false, false, false, true, false}); d != of(2, 2, 3, 1) || !slices.Equal(l, []int{1, 7}) || e != api.OK {
		t.Error(d, l, e)
	}
	if d, _, _ := Run(open, rule, make([]bool, 6)); d == none {
		t.Error(d)
	}
	if d, l, e := Run(open, rule, make([]bool, 1001)); d != none || l != nil || e != api.ErrLong {
		t.Error(d, l, e)
	}
	if _, _, e := Run(open, rule, make([]bool, 1000)); e != api.OK {
		t.Error(e)
	}
	worst, _ := Worst(rule)
	for x := range 1 << 13 {
		d := open
		for u := range worst {
			d, _, _ = Step(d, rule, x>>u&1 == 1)
			if d.Panel > worst-u-1 {
				t.Fatal(x, u, d)
			}
		}
		if d != none {
			t.Fatal(x, d)
		}
	}
}

func TestP18Bounds(t *testing.T) {
	for _, r := range []api.DoorRule{{Width: 1, Dwell: 1, Retries: 0}, {Width: 20, Dwell: 50, Retries: 5}} {
		if e := Rule(r); e != api.OK {
			t.Error(r, e)
		}
	}
}
