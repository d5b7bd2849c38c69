package phase

import (
	"slices"
	"testing"

	"tipstaff/api"
)

const most = 1<<63 - 1

var times = api.Times{Move: 5, Door: 3, Trip: 8, Slot: 29, Cycle: 58}

func of(slot, part, trip, at int) api.Phase {
	return api.Phase{Slot: slot, Part: part, Trip: trip, At: at}
}

func TestP26_1(t *testing.T) {
	with := func(change func(*api.Times)) api.Times {
		x := times
		change(&x)
		return x
	}
	for i, c := range []struct {
		t api.Times
		e api.Errno
	}{
		{times, api.OK}, {with(func(x *api.Times) { x.Move = 0 }), api.ErrRange}, {with(func(x *api.Times) { x.Move = 200001 }), api.ErrRange}, {with(func(x *api.Times) { x.Door = 0 }), api.ErrRange}, {with(func(x *api.Times) { x.Door = 200001 }), api.ErrRange}, {with(func(x *api.Times) { x.Trip = 9 }), api.ErrForm}, {with(func(x *api.Times) { x.Slot = 30 }), api.ErrForm}, {with(func(x *api.Times) { x.Slot = 13 }), api.ErrForm}, {with(func(x *api.Times) { x.Slot = -most - 1 }), api.ErrForm}, {with(func(x *api.Times) { x.Cycle = 59 }), api.ErrForm}, {with(func(x *api.Times) { x.Cycle = 0 }), api.ErrForm}, {with(func(x *api.Times) { x.Cycle = 25 * 29 }), api.ErrForm}, {with(func(x *api.Times) { x.Cycle = 24 * 29 }), api.OK}, {with(func(x *api.Times) { x.Slot, x.Cycle = 5+18*8, 5+18*8 }), api.ErrForm}, {with(func(x *api.Times) { x.Slot, x.Cycle = 5+17*8, 5+17*8 }), api.OK}, {api.Times{}, api.ErrRange},
	} {
		if e := Check(c.t); e != c.e {
			t.Error(i, e)
		}
		if c.e == api.OK {
			continue
		}
		_, a := Trips(c.t)
		_, b := Slots(c.t)
		_, d := Of(c.t, -1)
		_, f := Tick(c.t, of(0, 9, 0, 0))
		_, g := First(c.t, -1)
		_, h := Decision(c.t, -1)
		_, j := Length(c.t, 9)
		_, k := Next(c.t, -1, 9)
		_, l := Count(c.t, -1, -2, 9)
		if got := []api.Errno{a, b, d, f, g, h, j, k, l}; slices.ContainsFunc(got, func(e api.Errno) bool { return e != c.e }) {
			t.Error(i, got)
		}
	}
	n, e := Trips(times)
	m, f := Slots(times)
	if n != 2 || m != 2 || e+f != api.OK {
		t.Error(n, m, e, f)
	}
}

func TestP26_2_P26_5_P26_6(t *testing.T) {
	for tick, want := range map[int]api.Phase{0: of(0, 1, 0, 0), 5: of(0, 2, 0, 0), 10: of(0, 3, 0, 0), 13: of(0, 2, 1, 0), 20: of(0, 3, 1, 2), 21: of(0, 4, 0, 0), 26: of(0, 5, 0, 0), 28: of(0, 5, 0, 2), 29: of(1, 1, 0, 0)} {
		if p, e := Of(times, tick); p != want || e != api.OK {
			t.Error(tick, p, e)
		}
	}
	for i, c := range []struct {
		p    api.Phase
		tick int
		e    api.Errno
	}{{of(1, 2, 1, 4), 46, api.OK}, {of(0, 2, 2, 0), 0, api.ErrRange}, {of(0, 4, 1, 0), 0, api.ErrRange}, {of(0, 6, 0, 0), 0, api.ErrKind}, {of(-1, 0, 0, 0), 0, api.ErrKind}, {of(-1, 1, 0, 0), 0, api.ErrRange}, {of(0, 1, 0, 5), 0, api.ErrRange}, {of(0, 3, 0, 3), 0, api.ErrRange}, {of(0, 1, 0, -1), 0, api.ErrRange}, {of(0, 2, -1, 0), 0, api.ErrRange}, {of(most, 1, 0, 0), 0, api.ErrRange}, {of(1<<40/29, 1, 0, 0), 1 << 40 / 29 * 29, api.OK}, {of(1<<40/29, 5, 0, 2), 0, api.ErrRange}} {
		if tick, e := Tick(times, c.p); tick != c.tick || e != c.e {
			t.Error(i, tick, e)
		}
	}
	for tick := range 200 {
		p, _ := Of(times, tick)
		q, _ := Of(times, tick+1)
		if back, e := Tick(times, p); back != tick || e != api.OK {
			t.Error(tick, p, back, e)
		}
		if q.At != 0 && q != of(p.Slot, p.Part, p.Trip, p.At+1) {
			t.Error(p, q)
		}
		f, e := First(times, tick)
		d, g := Decision(times, tick)
		if f != (tick%29 == 0) || d != (tick%29 == 5 || tick%29 == 13) || e+g != api.OK {
			t.Error(tick, f, d)
		}
	}
	for _, tick := range []int{-1, 1<<40 + 1} {
		p, a := Of(times, tick)
		_, b := First(times, tick)
		_, c := Decision(times, tick)
		n, d := Next(times, tick, 9)
		if p != (api.Phase{}) || n != 0 || a != api.ErrRange || b != a || c != a || d != a {
			t.Error(tick, p, a, b, c, d)
		}
	}
}

func TestP26_3_P26_8_P26_9(t *testing.T) {
	for part, want := range []int{0, 5, 5, 3, 5, 3, 0} {
		n, e := Length(times, part)
		if n != want || (want == 0) != (e == api.ErrKind) {
			t.Error(part, n, e)
		}
		m, f := Next(times, 0, part)
		k, g := Count(times, 1, 0, part)
		if want == 0 && (m != 0 || f != api.ErrKind || k != 0 || g != api.ErrKind) || want > 0 && (f != api.OK || g != api.ErrRange) {
			t.Error(part, m, f, k, g)
		}
	}
	for i, c := range []struct {
		tick, part, n int
		e             api.Errno
	}{{13, 2, 34, api.OK}, {12, 2, 13, api.OK}, {0, 1, 29, api.OK}, {1 << 40, 3, 0, api.ErrRange}, {28, 1, 29, api.OK}} {
		if n, e := Next(times, c.tick, c.part); n != c.n || e != c.e {
			t.Error(i, n, e)
		}
	}
	for tick := range 100 {
		for part := 1; part <= 5; part++ {
			n, _ := Next(times, tick, part)
			for x := tick + 1; x <= n; x++ {
				if p, _ := Of(times, x); (p.Part == part && p.At == 0) != (x == n) {
					t.Fatal(tick, part, n)
				}
			}
		}
		n, _ := Next(times, tick, api.PartMove)
		if m, _ := Next(times, n, api.PartMove); m-n < 8 {
			t.Error(n, m)
		}
		p, _ := Of(times, tick)
		if q, _ := Of(times, tick+58); q != of(p.Slot+2, p.Part, p.Trip, p.At) {
			t.Error(p, q)
		}
	}
}

func TestP26_4_P26_7(t *testing.T) {
	for i, c := range []struct {
		from, to, part, n int
		e                 api.Errno
	}{{0, 29, 2, 10, api.OK}, {12, 22, 4, 1, api.OK}, {5, 5, 1, 0, api.OK}, {-1, 5, 1, 0, api.ErrRange}, {5, 4, 1, 0, api.ErrRange}, {0, 1<<40 + 1, 1, 0, api.ErrRange}, {0, 1 << 40, 1, (1<<40/29)*5 + 5, api.OK}} {
		if n, e := Count(times, c.from, c.to, c.part); n != c.n || e != c.e {
			t.Error(i, n, e)
		}
	}
	for from := range 70 {
		counts := make([]int, 6)
		for to := from; to < 100; to++ {
			all := 0
			for part := 1; part <= 5; part++ {
				n, _ := Count(times, from, to, part)
				if n != counts[part] {
					t.Fatal(from, to, part, n)
				}
				all += n
			}
			if all != to-from {
				t.Fatal(from, to)
			}
			p, _ := Of(times, to)
			counts[p.Part]++
		}
	}
}

func TestP26Bounds(t *testing.T) {
	for _, c := range []api.Times{{Move: 1, Door: 1, Trip: 2, Slot: 5, Cycle: 5}, {Move: 200000, Door: 200000, Trip: 400000, Slot: 200000 + 17*400000, Cycle: 24 * (200000 + 17*400000)}} {
		if e := Check(c); e != api.OK {
			t.Error(c, e)
		}
	}
	one := api.Times{Move: 1, Door: 1, Trip: 2, Slot: 5, Cycle: 5}
	if n, e := Trips(one); n != 1 || e != api.OK {
		t.Error(n, e)
	}
	if p, e := Of(one, 1<<40); p.Slot != 1<<40/5 || e != api.OK {
		t.Error(p, e)
	}
	// The last tick of all: 2^40 is 1 behind the beginning of a slot of 5.
	if n, e := Next(one, 1<<40-1, api.PartMove); n != 1<<40 || e != api.OK {
		t.Error(n, e)
	}
	if n, e := Next(one, 1<<40-2, api.PartHoming); n != 1<<40-1 || e != api.OK {
		t.Error(n, e)
	}
	if n, e := Next(api.Times{Move: 1, Door: 2, Trip: 3, Slot: 7, Cycle: 7}, 1<<40-3, api.PartHoming); e == api.OK && n > 1<<40 {
		t.Error(n, e)
	}
}
