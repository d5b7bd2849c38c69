package plant

import (
	"math/rand"
	"slices"
	"testing"

	"tipstaff/api"
	"tipstaff/profile"
)

func example() api.Config {
	return api.Config{Gaps: []int{10, 20}, Cars: 1, Speed: 3, Brake: 1, Width: 2}
}

var none api.Body

func of(at, speed, state, panel, way int) api.Body {
	b := api.Body{At: at, Speed: speed, Way: way, Brake: api.Brake{State: state}, Panel: panel}
	if state == api.BrakeOpening || state == api.BrakeClosing {
		b.Brake.Left = 1
	}
	return b
}

func order(what, to int) api.Order { return api.Order{What: what, To: to} }

func TestP36_1(t *testing.T) {
	c := example()
	for i, x := range []struct {
		change func(*api.Config)
		e      api.Errno
	}{{func(c *api.Config) { c.Gaps = nil; c.Cars = 0 }, api.ErrLong}, {func(c *api.Config) { c.Gaps[1] = 0 }, api.ErrRange}, {func(c *api.Config) { c.Cars = 0 }, api.ErrRange}, {func(c *api.Config) { c.Cars = 9 }, api.ErrRange}, {func(c *api.Config) { c.Speed = 0 }, api.ErrRange}, {func(c *api.Config) { c.Speed = 21 }, api.ErrRange}, {func(c *api.Config) { c.Brake = 6 }, api.ErrRange}, {func(c *api.Config) { c.Brake = -1 }, api.ErrRange}, {func(c *api.Config) { c.Tol = 21 }, api.ErrRange}, {func(c *api.Config) { c.Tol = -1 }, api.ErrRange}, {func(c *api.Config) { c.Width = 21 }, api.ErrRange}, {func(c *api.Config) { c.Width = 0 }, api.ErrRange}} {
		c := example()
		x.change(&c)
		l, a := New(c)
		b, n := Check(c, nil)
		_, d := One(c, none, order(9, 0))
		_, f, m := Tick(c, nil, nil)
		_, g := Go(c, none, -1)
		_, h := Cycle(c, -1)
		_, _, j := Run(c, none, nil)
		_, k := Still(c, nil)
		_, p := Floors(c, nil)
		if got := []api.Errno{a, b, d, f, g, h, j, k, p}; slices.ContainsFunc(got, func(e api.Errno) bool { return e != x.e }) || l != nil || n+m != 0 {
			t.Error(i, got)
		}
	}
	c.Cars = 2
	if l, e := New(c); !slices.Equal(l, []api.Body{none, none}) || e != api.OK {
		t.Error(l, e)
	}
	if e, n := Check(c, []api.Body{none}); e != api.ErrFull || n != 0 {
		t.Error(e, n)
	}
	motor := func(b api.Body) api.Body { b.Motor = true; return b }
	for i, x := range []struct {
		b api.Body
		e api.Errno
	}{
		{of(5, 0, 0, 1, 0), api.ErrState}, {of(10, 0, 2, 1, 0), api.ErrState}, {of(10, 1, 0, 0, 1), api.ErrState}, {motor(of(10, 0, 0, 0, 0)), api.ErrState}, {of(-1, 0, 0, 0, 0), api.ErrRange}, {of(31, 0, 0, 0, 0), api.ErrRange}, {of(5, 4, 2, 0, 1), api.ErrRange}, {of(5, -1, 2, 0, 1), api.ErrRange}, {of(5, 0, 2, 0, 1), api.ErrRange}, {of(5, 1, 2, 0, 0), api.ErrRange}, {of(5, 1, 2, 0, 2), api.ErrRange}, {of(10, 0, 0, 3, 0), api.ErrRange}, {of(10, 0, 0, -1, 0), api.ErrRange}, {api.Body{Load: 10001}, api.ErrRange}, {api.Body{Load: -1, Brake: api.Brake{State: 9}}, api.ErrRange}, {api.Body{Brake: api.Brake{State: 9}}, api.ErrState}, {api.Body{Brake: api.Brake{Left: 1}}, api.ErrRange},
		{of(10, 0, 0, 2, 0), api.OK}, {of(5, 3, 2, 0, -1), api.OK}, {motor(of(5, 0, 2, 0, 0)), api.OK}, {of(10, 0, 1, 0, 0), api.OK},
	} {
		if e, n := Check(c, []api.Body{none, x.b}); e != x.e || e != api.OK && n != 1 || e == api.OK && n != 0 {
			t.Error(i, e, n)
		}
		if x.e == api.OK {
			continue
		}
		b, a := One(c, x.b, order(9, 0))
		_, d, n := Tick(c, []api.Body{none, x.b}, nil)
		_, f := Go(c, x.b, -1)
		_, m, g := Run(c, x.b, nil)
		_, h := Still(c, []api.Body{none, x.b})
		_, j := Floors(c, []api.Body{none, x.b})
		if got := []api.Errno{a, d, f, g, h, j}; slices.ContainsFunc(got, func(e api.Errno) bool { return e != x.e }) || b != none || n != 1 || m != 0 {
			t.Error(i, got, n)
		}
	}
	loose := c
	loose.Brake = 0
	if e, _ := Check(loose, []api.Body{of(5, 2, 0, 0, 1), motor(none)}); e != api.OK {
		t.Error(e)
	}
}

func TestP36_2_P36_9(t *testing.T) {
	c := example()
	moved := func(b api.Body) api.Body { b.Motor = true; return b }
	for i, x := range []struct {
		b    api.Body
		o    api.Order
		want api.Body
		e    api.Errno
	}{
		{none, order(7, 1), none, api.ErrKind}, {none, order(-1, 0), none, api.ErrKind}, {none, order(api.Stay, 31), none, api.ErrForm}, {of(6, 3, 2, 0, 1), order(api.Force, 1), none, api.ErrForm}, {of(10, 0, 2, 0, 0), order(api.Travel, 31), none, api.ErrRange}, {of(10, 0, 2, 0, 0), order(api.Travel, -1), none, api.ErrRange},
		{of(6, 3, 2, 0, 1), order(api.Stay, 0), none, api.ErrState}, {moved(of(6, 0, 2, 0, 0)), order(api.Stay, 0), of(6, 0, 2, 0, 0), api.OK}, {none, order(api.Release, 0), of(0, 0, 2, 0, 0), api.OK}, {of(6, 0, 1, 0, 0), order(api.Release, 0), of(6, 0, 2, 0, 0), api.OK}, {of(6, 0, 2, 0, 0), order(api.Release, 0), none, api.ErrState}, {of(6, 0, 3, 0, 0), order(api.Release, 0), none, api.ErrState}, {of(10, 0, 0, 1, 0), order(api.Release, 0), none, api.ErrState}, {of(6, 1, 2, 0, 1), order(api.Release, 0), none, api.ErrState},
		{of(10, 0, 0, 0, 0), order(api.Travel, 10), none, api.ErrState}, {of(10, 0, 2, 0, 0), order(api.Travel, 10), of(10, 0, 2, 0, 0), api.OK}, {of(6, 3, 2, 0, 1), order(api.Travel, 0), none, api.ErrState}, {of(6, 3, 2, 0, 1), order(api.Travel, 6), none, api.ErrState}, {of(6, 3, 2, 0, 1), order(api.Travel, 7), none, api.ErrState}, {of(6, 3, 2, 0, 1), order(api.Travel, 9), moved(of(8, 2, 2, 0, 1)), api.OK}, {of(6, 3, 2, 0, -1), order(api.Travel, 0), moved(of(3, 3, 2, 0, -1)), api.OK}, {of(6, 1, 2, 0, 1), order(api.Travel, 7), moved(of(7, 0, 2, 0, 0)), api.OK}, {of(6, 0, 1, 0, 0), order(api.Travel, 7), none, api.ErrState}, {of(10, 0, 0, 1, 0), order(api.Travel, 7), none, api.ErrState},
		{of(10, 0, 2, 0, 0), order(api.Apply, 0), of(10, 0, 0, 0, 0), api.OK}, {of(10, 0, 3, 0, 0), order(api.Apply, 0), of(10, 0, 0, 0, 0), api.OK}, {of(10, 0, 0, 0, 0), order(api.Apply, 0), none, api.ErrState}, {of(10, 0, 1, 0, 0), order(api.Apply, 0), none, api.ErrState}, {of(6, 1, 2, 0, 1), order(api.Apply, 0), none, api.ErrState},
		{of(10, 0, 0, 0, 0), order(api.OpenUp, 0), of(10, 0, 0, 1, 0), api.OK}, {of(10, 0, 0, 2, 0), order(api.OpenUp, 0), none, api.ErrState}, {of(9, 0, 0, 0, 0), order(api.OpenUp, 0), none, api.ErrState}, {of(10, 0, 2, 0, 0), order(api.OpenUp, 0), none, api.ErrState}, {of(10, 0, 0, 0, 0), order(api.Shut, 0), none, api.ErrState}, {of(10, 0, 0, 2, 0), order(api.Shut, 0), of(10, 0, 0, 1, 0), api.OK}, {of(10, 0, 2, 0, 0), order(api.Shut, 0), none, api.ErrState},
		{of(6, 3, 2, 0, 1), order(api.Force, 0), of(6, 0, 0, 0, 0), api.OK}, {of(10, 0, 0, 2, 0), order(api.Force, 0), of(10, 0, 0, 1, 0), api.OK}, {none, order(api.Force, 0), none, api.OK}, {of(6, 0, 1, 0, 0), order(api.Force, 0), of(6, 0, 0, 0, 0), api.OK},
	} {
		if b, e := One(c, x.b, x.o); b != x.want || e != x.e {
			t.Error(i, b, e)
		}
	}
	c.Cars = 3
	l := []api.Body{none, of(6, 3, 2, 0, 1), of(10, 0, 0, 1, 0)}
	orders := []api.Order{order(api.Release, 0), order(api.Travel, 20), order(api.Shut, 0)}
	next, e, n := Tick(c, l, orders)
	if e != api.OK || n != 0 || len(next) != 3 {
		t.Fatal(e, n)
	}
	for i := range l {
		if b, _ := One(c, l[i], orders[i]); b != next[i] {
			t.Error(i, b, next[i])
		}
	}
	orders[1].To, orders[2].What = 0, 9
	if next, e, n := Tick(c, l, orders); next != nil || e != api.ErrState || n != 1 {
		t.Error(next, e, n)
	}
	if next, e, n := Tick(c, l, orders[:2]); next != nil || e != api.ErrFull || n != 0 {
		t.Error(next, e, n)
	}
}

func TestP36_3_P36_4_P36_6_P36_7(t *testing.T) {
	c := example()
	l, e := Go(c, none, 1)
	want := append(append([]api.Order{order(api.Release, 0)}, slices.Repeat([]api.Order{order(api.Travel, 10)}, 6)...), order(api.Apply, 0))
	if !slices.Equal(l, want) || e != api.OK {
		t.Error(l, e)
	}
	at := []int{0, 1, 3, 6, 8, 9, 10, 10}
	for i := range l {
		if b, n, e := Run(c, none, l[:i+1]); b.At != at[i] || n != i+1 || e != api.OK || b.Motor != (i > 0 && i < 7) {
			t.Error(i, b, n, e)
		}
	}
	for _, brake := range []int{0, 1, 4} {
		for _, speed := range []int{1, 3, 9} {
			for pos := 0; pos <= 30; pos++ {
				for floor, to := range []int{0, 10, 30} {
					c.Brake, c.Speed = brake, speed
					l, e := Go(c, of(pos, 0, 0, 0, 0), floor)
					b, n, f := Run(c, of(pos, 0, 0, 0, 0), l)
					b.Motor = false
					if e+f != api.OK || n != len(l) || b != of(to, 0, 0, 0, 0) {
						t.Error(brake, speed, pos, floor, b, n, e, f)
					}
				}
			}
		}
	}
	c = example()
	for i, x := range []struct {
		b     api.Body
		floor int
		e     api.Errno
	}{{none, -1, api.ErrRange}, {none, 3, api.ErrRange}, {of(6, 1, 2, 0, 1), 3, api.ErrRange}, {of(6, 1, 2, 0, 1), 1, api.ErrState}, {of(6, 0, 2, 0, 0), 1, api.ErrState}, {of(10, 0, 0, 1, 0), 1, api.ErrState}, {of(10, 0, 0, 0, 0), 1, api.OK}} {
		if l, e := Go(c, x.b, x.floor); l != nil || e != x.e {
			t.Error(i, l, e)
		}
	}
	l, e = Cycle(c, 1)
	if !slices.Equal(l, []api.Order{order(4, 0), order(4, 0), order(0, 0), order(5, 0), order(5, 0)}) || e != api.OK {
		t.Error(l, e)
	}
	for dwell := range 4 {
		l, _ := Cycle(c, dwell)
		if b, n, e := Run(c, of(10, 0, 0, 0, 0), l); b != of(10, 0, 0, 0, 0) || n != len(l) || e != api.OK {
			t.Error(dwell, b, n, e)
		}
	}
	for _, dwell := range []int{-1, 1001} {
		if l, e := Cycle(c, dwell); l != nil || e != api.ErrRange {
			t.Error(l, e)
		}
	}
	if b, n, e := Run(c, none, []api.Order{order(1, 0), order(5, 0), order(1, 0)}); b != of(0, 0, 2, 0, 0) || n != 1 || e != api.ErrState {
		t.Error(b, n, e)
	}
	c.Cars = 3
	bank := []api.Body{none, of(5, 0, 2, 0, 0), of(30, 0, 0, 0, 0)}
	s, e := Still(c, bank)
	f, g := Floors(c, bank)
	if !s || e+g != api.OK || !slices.Equal(f, []int{0, 0, 2}) {
		t.Error(s, e, f, g)
	}
	for _, b := range []api.Body{of(20, 1, 2, 0, 1), of(10, 0, 0, 1, 0)} {
		bank[1] = b
		if s, e := Still(c, bank); s || e != api.OK {
			t.Error(b, s, e)
		}
	}
}

func TestP36_5_P36_8(t *testing.T) {
	r := rand.New(rand.NewSource(36))
	for _, brake := range []int{0, 1, 3} {
		c := example()
		c.Brake, c.Tol = brake, 1
		b := none
		done := 0
		for range 20000 {
			next, e := One(c, b, order(r.Intn(7)*r.Intn(2), 0))
			if r.Intn(3) > 0 {
				next, e = One(c, b, order(api.Travel, r.Intn(31)))
			}
			if e != api.OK {
				continue
			}
			done++
			if x, _ := Check(c, []api.Body{next}); x != api.OK {
				t.Fatal(b, next, x)
			}
			b = next
			if r.Intn(20) == 0 {
				f := b
				for range c.Width {
					f, e = One(c, f, order(api.Force, 0))
					if f.Speed != 0 || f.Way != 0 || f.Brake != (api.Brake{}) || e != api.OK {
						t.Fatal(f, e)
					}
				}
				l, e := Go(c, f, r.Intn(3))
				if _, n, g := Run(c, f, l); f.Panel != 0 || e+g != api.OK || n != len(l) {
					t.Fatal(f, l, e, g)
				}
			}
		}
		if done < 1000 {
			t.Error(brake, done)
		}
	}
}

func TestP36Bounds(t *testing.T) {
	c := example()
	if b, e := One(c, of(6, 1, 2, 0, 1), order(api.Travel, 6)); b != none || e != api.ErrState {
		t.Error(b, e)
	}
	for _, at := range []int{0, 7, 30} {
		l, e := Go(c, of(at, 0, 0, 0, 0), 1)
		n, _ := profile.Travel(max(at-10, 10-at), c.Speed)
		if len(l) != n+2 || e != api.OK {
			t.Error(at, len(l), n, e)
		}
	}
	for _, dwell := range []int{0, 1000} {
		if l, e := Cycle(c, dwell); len(l) != 4+dwell || e != api.OK {
			t.Error(dwell, len(l), e)
		}
	}
	least := api.Config{Gaps: []int{1}, Cars: 1, Speed: 1, Width: 1}
	largest := api.Config{Gaps: []int{1000}, Cars: 8, Speed: 20, Brake: 5, Tol: 20, Width: 20}
	for _, c := range []api.Config{least, largest} {
		if l, e := New(c); len(l) != c.Cars || e != api.OK {
			t.Error(c, e)
		}
	}
}
