package brake

import (
	"slices"
	"testing"

	"tipstaff/api"
)

func of(state, left int) api.Brake { return api.Brake{State: state, Left: left} }

var none api.Brake

func TestP10_1_P10_5(t *testing.T) {
	if New() != of(api.BrakeClosed, 0) {
		t.Error(New())
	}
	for i, c := range []struct {
		b api.Brake
		n int
		e api.Errno
	}{{of(1, 3), 2, api.ErrRange}, {of(2, 1), 2, api.ErrRange}, {of(0, 1), 2, api.ErrRange}, {of(0, 0), 6, api.ErrRange}, {of(9, 0), -1, api.ErrRange}, {of(4, 9), 2, api.ErrState}, {of(-1, 0), 2, api.ErrState}, {of(3, 0), 2, api.ErrRange}, {of(1, 0), 0, api.ErrRange}, {of(3, 2), 2, api.OK}, {of(1, 1), 2, api.OK}, {of(2, 0), 0, api.OK}} {
		if e := Check(c.b, c.n); e != c.e {
			t.Error(i, e)
		}
		if c.e == api.OK {
			continue
		}
		_, a := Release(c.b, c.n)
		_, b := Apply(c.b, c.n)
		_, d := Step(c.b, c.n)
		_, f := Run(c.b, c.n, -1)
		_, g := Free(c.b, c.n)
		_, _, h := Ends(c.b, c.n)
		if got := []api.Errno{a, b, d, f, g, h}; slices.ContainsFunc(got, func(e api.Errno) bool { return e != c.e }) {
			t.Error(i, got)
		}
	}
}

func TestP10_2(t *testing.T) {
	for i, c := range []struct {
		f    func(api.Brake, int) (api.Brake, api.Errno)
		b    api.Brake
		n    int
		want api.Brake
		e    api.Errno
	}{{Release, of(0, 0), 2, of(1, 2), api.OK}, {Release, of(0, 0), 0, of(2, 0), api.OK}, {Apply, of(2, 0), 2, of(3, 2), api.OK}, {Apply, of(2, 0), 0, of(0, 0), api.OK}, {Release, of(2, 0), 2, none, api.ErrState}, {Apply, of(0, 0), 2, none, api.ErrState}, {Release, of(1, 1), 2, none, api.ErrState}, {Release, of(3, 1), 2, none, api.ErrState}, {Apply, of(1, 1), 2, none, api.ErrState}, {Apply, of(3, 1), 2, none, api.ErrState}} {
		if b, e := c.f(c.b, c.n); b != c.want || e != c.e {
			t.Error(i, b, e)
		}
	}
}

func TestP10_3_P10_6_P10_7(t *testing.T) {
	for i, c := range []struct {
		b     api.Brake
		ticks int
		want  api.Brake
		e     api.Errno
	}{{of(1, 2), 0, of(1, 2), api.OK}, {of(1, 2), 1, of(1, 1), api.OK}, {of(1, 2), 2, of(2, 0), api.OK}, {of(1, 2), 9, of(2, 0), api.OK}, {of(3, 2), 2, of(0, 0), api.OK}, {of(0, 0), 1000, of(0, 0), api.OK}, {of(2, 0), 5, of(2, 0), api.OK}, {of(0, 0), 1001, none, api.ErrRange}, {of(2, 0), -1, none, api.ErrRange}} {
		if b, e := Run(c.b, 2, c.ticks); b != c.want || e != c.e {
			t.Error(i, b, e)
		}
	}
	for n := 0; n <= 5; n++ {
		b, _ := Release(New(), n)
		for i := 0; i <= n+1; i++ {
			if open, _ := Free(b, n); open != (i >= n) {
				t.Error(n, i, b)
			}
			all, _ := Run(b, n, 4)
			next, e := Step(b, n)
			if two, _ := Run(next, n, 3); e != api.OK || two != all || Check(next, n) != api.OK {
				t.Error(n, i, two, all)
			}
			b = next
		}
		b, _ = Apply(b, n)
		for i := 0; i <= n+1; i++ {
			if (b == New()) != (i >= n) {
				t.Error(n, i, b)
			}
			b, _ = Step(b, n)
		}
	}
	for s := -1; s < 6; s++ {
		if Force(of(s, 9)) != New() {
			t.Error(s)
		}
	}
}

func TestP10_4_P10_8(t *testing.T) {
	for i, c := range []struct {
		b, end api.Brake
		ticks  int
	}{{of(1, 2), of(2, 0), 2}, {of(3, 1), of(0, 0), 1}, {of(0, 0), of(0, 0), 0}, {of(2, 0), of(2, 0), 0}} {
		if b, n, e := Ends(c.b, 2); b != c.end || n != c.ticks || e != api.OK {
			t.Error(i, b, n, e)
		}
		if f, e := Free(c.b, 2); f != (c.b.State == api.BrakeOpen) || e != api.OK {
			t.Error(i, f, e)
		}
	}
	for i, c := range []struct {
		n, ticks int
		want     []int
		e        api.Errno
	}{{2, 3, []int{1, 2, 2, 2, 2, 3, 0}, api.OK}, {0, 2, []int{2, 2}, api.OK}, {0, 0, nil, api.OK}, {1, 0, []int{2, 0}, api.OK}, {3, 0, []int{1, 1, 2, 3, 3, 0}, api.OK}, {6, 0, nil, api.ErrRange}, {-1, 0, nil, api.ErrRange}, {0, -1, nil, api.ErrRange}, {0, 1001, nil, api.ErrRange}} {
		if l, e := States(c.n, c.ticks); !slices.Equal(l, c.want) || e != c.e {
			t.Error(i, l, e)
		}
	}
	for n := 0; n <= 5; n++ {
		for ticks := range 4 {
			l, _ := States(n, ticks)
			if len(l) != 2*n+ticks {
				t.Fatal(l)
			}
			for i, s := range l {
				if (s == api.BrakeOpen) != (i >= n-1 && i < n+ticks) {
					t.Error(n, ticks, l)
				}
			}
		}
	}
	for s, want := range []string{"closed", "opening", "open", "closing", "unknown"} {
		if state(s).String() != want {
			t.Error(s)
		}
	}
}

func TestP10Bounds(t *testing.T) {
	for ticks, want := range map[int]api.Errno{-1: api.ErrRange, 0: api.OK, 1000: api.OK, 1001: api.ErrRange} {
		l, e := States(3, ticks)
		_, f := Run(New(), 3, ticks)
		if e != want || f != want || e == api.OK && len(l) != 6+ticks {
			t.Error(ticks, e, f)
		}
	}
}
