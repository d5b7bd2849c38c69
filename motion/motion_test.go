package motion

import (
	"slices"
	"testing"

	"tipstaff/api"
	"tipstaff/profile"
)

func start(t *testing.T, pos, goal, most int) api.Motion {
	m, e := Start(pos, goal, most)
	if e != api.OK {
		t.Fatal(e)
	}
	return m
}

func TestP9_1(t *testing.T) {
	for i, c := range []struct {
		m api.Motion
		e api.Errno
	}{
		{api.Motion{Pos: 0, Goal: 2, Speed: 3, Most: 5}, api.ErrForm}, {api.Motion{Pos: 4, Goal: 4, Speed: 1, Most: 5}, api.ErrForm}, {api.Motion{Pos: 0, Goal: 3, Speed: 3, Most: 5}, api.OK}, {api.Motion{Goal: 63001, Most: 1}, api.ErrRange}, {api.Motion{Pos: -1, Most: 1}, api.ErrRange}, {api.Motion{}, api.ErrRange}, {api.Motion{Most: 21}, api.ErrRange}, {api.Motion{Goal: 9, Most: 2, Speed: 3}, api.ErrRange}, {api.Motion{Goal: 9, Most: 2, Speed: -1}, api.ErrRange}, {api.Motion{Pos: 1 << 62, Most: 1}, api.ErrRange}, {api.Motion{Pos: 5, Goal: 5, Most: 20}, api.OK},
	} {
		if e := Check(c.m); e != c.e {
			t.Error(i, e)
		}
		if c.e == api.OK {
			continue
		}
		_, a := Step(c.m)
		_, b := Run(c.m, -1)
		_, d := Left(c.m)
		_, f := Path(c.m, -1)
		_, g := Stop(c.m)
		_, h := Nearest(c.m)
		_, j := Turn(c.m, -1)
		if got := []api.Errno{a, b, d, f, g, h, j}; slices.ContainsFunc(got, func(e api.Errno) bool { return e != c.e }) {
			t.Error(i, got)
		}
	}
	for _, c := range [][3]int{{0, 63001, 1}, {-1, 0, 1}, {0, 0, 0}, {0, 0, 21}} {
		if m, e := Start(c[0], c[1], c[2]); m != (api.Motion{}) || e != api.ErrRange {
			t.Error(c, m, e)
		}
	}
}

func TestP9_2_P9_5_P9_6_P9_7_P9_8(t *testing.T) {
	for _, c := range []struct {
		pos, goal, most int
		path            []int
	}{{0, 9, 5, []int{1, 3, 6, 8, 9}}, {10, 3, 5, []int{9, 7, 5, 4, 3}}, {10, 3, 1, []int{9, 8, 7, 6, 5, 4, 3}}, {5, 5, 1, nil}} {
		if l, e := Path(start(t, c.pos, c.goal, c.most), 9); !slices.Equal(l, c.path) || e != api.OK {
			t.Error(c, l, e)
		}
	}
	for most := 1; most <= 6; most++ {
		for goal := 0; goal < 60; goal++ {
			m := start(t, 30, goal, most)
			left, _ := Left(m)
			if want, _ := profile.Travel(max(30-goal, goal-30), most); left != want {
				t.Fatal(most, goal, left)
			}
			path, _ := Path(m, 1000)
			if len(path) != left {
				t.Fatal(path)
			}
			at := m
			for i := range left {
				next, e := Step(at)
				n, _ := Left(next)
				run, _ := Run(m, i+1)
				rest, _ := Run(at, left-i)
				if e != api.OK || Check(next) != api.OK || n != left-i-1 || run != next || path[i] != next.Pos || max(next.Speed-at.Speed, at.Speed-next.Speed) > 1 && next.Pos != goal || rest.Pos != goal || rest.Speed != 0 || max(30-goal, goal-30) != max(30-next.Pos, next.Pos-30)+max(goal-next.Pos, next.Pos-goal) {
					t.Fatal(most, goal, i, next, n, run)
				}
				at = next
			}
			if still, _ := Step(at); still != at || at.Pos != goal {
				t.Fatal(still)
			}
		}
	}
	m := start(t, 0, 63000, 1)
	if n, e := Left(m); n != 63000 || e != api.OK {
		t.Error(n, e)
	}
	if r, e := Run(m, 100000); r.Pos != 63000 || e != api.OK {
		t.Error(r, e)
	}
	if r, e := Run(m, 0); r != m || e != api.OK {
		t.Error(r, e)
	}
	if l, e := Path(m, 0); len(l) != 0 || e != api.OK {
		t.Error(l, e)
	}
	for _, n := range []int{-1, 100001} {
		if r, e := Run(m, n); r != (api.Motion{}) || e != api.ErrRange {
			t.Error(n, r, e)
		}
	}
	for _, n := range []int{-1, 1001} {
		if l, e := Path(m, n); l != nil || e != api.ErrRange {
			t.Error(n, l, e)
		}
	}
}

func TestP9_3_P9_4_P9_9(t *testing.T) {
	m, _ := Run(start(t, 0, 9, 5), 2)
	near, _ := Nearest(m)
	left, _ := Left(m)
	if m.Speed != 2 || near != 4 || left != 3 {
		t.Error(m, near, left)
	}
	a, e := Turn(m, 4)
	if n, _ := Left(a); n != 1 || e != api.OK {
		t.Error(a, n, e)
	}
	if b, e := Turn(m, 3); b != (api.Motion{}) || e != api.ErrState {
		t.Error(b, e)
	}
	if b, e := Turn(m, 63001); b != (api.Motion{}) || e != api.ErrRange {
		t.Error(b, e)
	}
	b, e := Turn(m, 20)
	if n, _ := Left(b); n != 6 || e != api.OK {
		t.Error(b, n, e)
	}
	if s, e := Stop(m); s != (api.Motion{Pos: 3, Goal: 3, Most: 5}) || e != api.OK {
		t.Error(s, e)
	}
	slow := api.Motion{Pos: 5, Goal: 0, Speed: 1, Most: 3}
	if s, e := Turn(slow, 5); s != (api.Motion{Pos: 5, Goal: 5, Most: 3}) || e != api.OK {
		t.Error(s, e)
	}
	if s, e := Turn(slow, 6); s != (api.Motion{}) || e != api.ErrState {
		t.Error(s, e)
	}
	still := start(t, 7, 7, 2)
	if n, e := Nearest(still); n != 7 || e != api.OK {
		t.Error(n, e)
	}
	if s, e := Turn(still, 2); s.Goal != 2 || e != api.OK {
		t.Error(s, e)
	}
	for _, goal := range []int{0, 100} {
		m := start(t, 50, goal, 6)
		for m.Pos != m.Goal {
			m, _ = Step(m)
			if same, _ := Turn(m, m.Goal); same != m {
				t.Fatal(same, m)
			}
			near, _ := Nearest(m)
			s, e := Turn(m, near)
			n, _ := Left(s)
			if e != api.OK || n != max(m.Speed-1, 0) {
				t.Fatal(m, s, n, e)
			}
		}
	}
}
