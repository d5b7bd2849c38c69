package drive

import (
	"slices"
	"testing"

	"tipstaff/api"
	"tipstaff/profile"
)

var none api.Drive

func of(pos, goal, speed, part, left int) api.Drive {
	return api.Drive{Pos: pos, Goal: goal, Speed: speed, Part: part, Left: left}
}

func TestP13_1(t *testing.T) {
	for _, p := range []int{-1, 63001} {
		if d, e := At(p); d != none || e != api.ErrRange {
			t.Error(p, d, e)
		}
	}
	if d, e := At(63000); d != of(63000, 63000, 0, 0, 0) || e != api.OK {
		t.Error(d, e)
	}
	for i, c := range []struct {
		d api.Drive
		e api.Errno
	}{
		{of(0, 0, 0, 0, 0), api.OK}, {of(0, 4, 0, 1, 5), api.OK}, {of(0, 4, 0, 2, 0), api.OK}, {of(0, 3, 3, 2, 0), api.OK}, {of(5, 5, 0, 3, 1), api.OK},
		{of(-1, 0, 0, 0, 0), api.ErrRange}, {of(0, 63001, 0, 2, 0), api.ErrRange}, {of(0, 500, 21, 2, 0), api.ErrRange}, {of(0, 5, -1, 2, 0), api.ErrRange}, {of(0, 0, 0, 4, 0), api.ErrRange}, {of(0, 0, 0, -1, 0), api.ErrRange}, {of(0, 4, 0, 1, 6), api.ErrRange}, {of(0, 4, 0, 1, -1), api.ErrRange}, {of(0, 4, 0, 1, 0), api.ErrForm}, {of(0, 0, 0, 0, 1), api.ErrForm}, {of(0, 4, 0, 2, 1), api.ErrForm}, {of(0, 0, 0, 3, 0), api.ErrForm},
		{of(0, 4, 0, 0, 0), api.ErrForm}, {of(0, 0, 1, 0, 0), api.ErrForm}, {of(0, 0, 0, 1, 1), api.ErrForm}, {of(0, 4, 1, 1, 1), api.ErrForm}, {of(0, 0, 0, 2, 0), api.ErrForm}, {of(0, 2, 3, 2, 0), api.ErrForm}, {of(0, 4, 0, 3, 1), api.ErrForm}, {of(4, 4, 1, 3, 1), api.ErrForm},
	} {
		if e := Check(c.d); e != c.e {
			t.Error(i, e)
		}
		if c.e == api.OK {
			continue
		}
		_, a := Go(c.d, -1, 9)
		_, _, b := Step(c.d, 0, 9)
		_, f := Halt(c.d)
		_, g := Needs(c.d, 0, 9)
		_, _, h := Run(c.d, 0, 9, -1)
		if got := []api.Errno{a, b, f, g, h}; slices.ContainsFunc(got, func(e api.Errno) bool { return e != c.e }) {
			t.Error(i, got)
		}
	}
}

func TestP13_2_P13_3(t *testing.T) {
	run := of(1, 4, 1, 2, 0)
	for _, c := range [][2]int{{-1, 1}, {63001, 1}, {4, -1}, {4, 6}} {
		if d, e := Go(run, c[0], c[1]); d != none || e != api.ErrRange {
			t.Error(c, d, e)
		}
	}
	if d, e := Go(of(0, 4, 0, 2, 0), 9, 1); d != none || e != api.ErrState {
		t.Error(d, e)
	}
	if d, e := Go(of(3, 3, 0, 0, 0), 3, 1); d != of(3, 3, 0, 0, 0) || e != api.OK {
		t.Error(d, e)
	}
	if d, e := Go(of(3, 3, 0, 0, 0), 5, 0); d != of(3, 5, 0, 2, 0) || e != api.OK {
		t.Error(d, e)
	}
	d, _ := Go(none, 4, 1)
	for i, c := range []struct {
		d     api.Drive
		motor bool
	}{{of(0, 4, 0, 2, 0), false}, {of(1, 4, 1, 2, 0), true}, {of(3, 4, 2, 2, 0), true}, {of(4, 4, 0, 3, 1), true}, {of(4, 4, 0, 0, 0), false}, {of(4, 4, 0, 0, 0), false}} {
		next, motor, e := Step(d, 3, 1)
		if next != c.d || motor != c.motor || e != api.OK {
			t.Error(i, next, motor, e)
		}
		d = next
	}
	if h, e := Halt(run); h != of(1, 1, 0, 0, 0) || e != api.OK {
		t.Error(h, e)
	}
	if n, e := Needs(run, 3, 1); n != 3 || e != api.OK {
		t.Error(n, e)
	}
	for i, c := range []struct {
		d               api.Drive
		speed, brake, n int
		e               api.Errno
	}{{of(0, 9, 4, 2, 0), 3, 1, 0, api.ErrForm}, {of(0, 9, 0, 1, 3), 3, 2, 0, api.ErrForm}, {run, 0, 1, 0, api.ErrRange}, {run, 21, 1, 0, api.ErrRange}, {run, 3, -1, 0, api.ErrRange}, {run, 3, 6, 0, api.ErrRange}, {run, 3, 1, -1, api.ErrRange}, {run, 3, 1, 200001, api.ErrRange}} {
		r, m, f := Run(c.d, c.speed, c.brake, c.n)
		if r != none || m != 0 || f != c.e {
			t.Error(i, r, m, f)
		}
		if c.n != 0 {
			continue
		}
		next, motor, e := Step(c.d, c.speed, c.brake)
		n, g := Needs(c.d, c.speed, c.brake)
		if next != none || motor || e != c.e || n != 0 || g != c.e {
			t.Error(i, next, motor, e, n, g)
		}
	}
	for i, c := range []struct {
		from, to, speed, brake, n int
		e                         api.Errno
	}{{0, 4, 3, 1, 5, api.OK}, {4, 0, 3, 1, 5, api.OK}, {7, 7, 3, 1, 0, api.OK}, {0, 9, 3, 1, 7, api.OK}, {0, 5, 0, 1, 0, api.ErrRange}, {0, 5, 21, 1, 0, api.ErrRange}, {-1, 5, 1, 1, 0, api.ErrRange}, {0, 63001, 1, 1, 0, api.ErrRange}, {5, 5, 1, 6, 0, api.ErrRange}, {5, 5, 1, -1, 0, api.ErrRange}} {
		if n, e := Ticks(c.from, c.to, c.speed, c.brake); n != c.n || e != c.e {
			t.Error(i, n, e)
		}
	}
}

func TestP13_4_P13_5_P13_6_P13_7_P13_8(t *testing.T) {
	for _, speed := range []int{1, 2, 3, 7, 20} {
		for _, brake := range []int{0, 1, 5} {
			for _, goal := range []int{50, 51, 52, 57, 0, 300} {
				d, e := Go(of(50, 50, 0, 0, 0), goal, brake)
				total, _ := Ticks(50, goal, speed, brake)
				back, _ := Ticks(goal, 50, speed, brake)
				way, _ := profile.Travel(max(goal-50, 50-goal), speed)
				first, motors := d, 0
				for i := range total {
					left, a := Needs(d, speed, brake)
					next, motor, b := Step(d, speed, brake)
					run, m, c := Run(first, speed, brake, i+1)
					if motor {
						motors++
					}
					if e+a+b+c != api.OK || left != total-i || run != next || m != motors || motor != (d.Part == api.Running) || Check(next) != api.OK || max(next.Speed-d.Speed, d.Speed-next.Speed) > 1 && next.Pos != goal || max(goal-50, 50-goal) != max(next.Pos-50, 50-next.Pos)+max(goal-next.Pos, next.Pos-goal) {
						t.Fatal(speed, brake, goal, i, left, next, run, m)
					}
					d = next
				}
				if n, _ := Needs(d, speed, brake); n != 0 || d != of(goal, goal, 0, 0, 0) || motors != way || back != total {
					t.Fatal(speed, brake, goal, d, n, motors)
				}
			}
		}
	}
	for i := range 300 {
		a, _ := Ticks(0, i, 4, 2)
		if b, _ := Ticks(0, i+1, 4, 2); b < a {
			t.Error(i)
		}
	}
	far, _ := Go(none, 63000, 5)
	if d, m, e := Run(far, 1, 5, 200000); d.Pos != 63000 || d.Part != api.AtRest || m != 63000 || e != api.OK {
		t.Error(d, m, e)
	}
	if n, e := Needs(far, 1, 5); n != 63010 || e != api.OK {
		t.Error(n, e)
	}
	if d, m, e := Run(far, 1, 5, 0); d != far || m != 0 || e != api.OK {
		t.Error(d, m, e)
	}
}

func TestP13Bounds(t *testing.T) {
	for _, d := range []api.Drive{of(0, 63000, 20, 2, 0), of(63000, 0, 0, 1, 5), of(0, 63000, 0, 1, 1)} {
		if e := Check(d); e != api.OK {
			t.Error(d, e)
		}
	}
	for _, e := range []api.Errno{Check(of(0, 63000, 21, 2, 0)), Check(of(0, 0, 0, 4, 0)), Check(of(0, 0, 0, -1, 0))} {
		if e != api.ErrRange {
			t.Error(e)
		}
	}
	// All distances that are left at the greatest speed, counted tick by tick.
	for left := 3; left < 60; left++ {
		d := of(0, left, 3, 2, 0)
		if Check(d) != api.OK {
			continue
		}
		n, e := Needs(d, 3, 2)
		ticks := 0
		for d.Part != api.AtRest {
			d, _, _ = Step(d, 3, 2)
			ticks++
		}
		if n != ticks || e != api.OK {
			t.Error(left, n, ticks, e)
		}
	}
}
