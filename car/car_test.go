package car

import (
	"math/rand"
	"testing"

	"tipstaff/api"
	"tipstaff/config"
	"tipstaff/phase"
)

var none api.CarState

func example() api.Config {
	return api.Config{
		Floors: 3, Gaps: []int{4, 4}, Cars: 2, Speed: 2, Width: 1, Dwell: 1, Trips: 1, Slots: 1, Life: 9, Full: 50,
		Rota: [][]int{{1}, {1}}, Rules: [3]api.Rule{{Mask: 7, Calls: 4}, {Mask: 7, Calls: 4}, {Mask: 7, Calls: 4}},
	}
}

// larger is a configuration with a brake, a tolerance and retries.
func larger() api.Config {
	c := example()
	c.Gaps, c.Speed, c.Brake, c.Tol, c.Width, c.Dwell, c.Retries, c.Trips = []int{7, 13}, 3, 2, 1, 3, 2, 2, 2
	return c
}

func phaseOf(c api.Config, tick int) api.Phase {
	t, _ := config.Times(c)
	p, _ := phase.Of(t, tick)
	return p
}

func fresh(t *testing.T, c api.Config, in bool) api.CarState {
	s, e := New(c, in)
	if e != api.OK {
		t.Fatal(e)
	}
	return s
}

func of(car, what, value int) api.Entry {
	return api.Entry{Kind: api.AtCar, Car: car, What: what, Value: value}
}

func TestP31_1(t *testing.T) {
	c := example()
	if s, e := New(c, true); s != (api.CarState{In: true, Goal: -1, Cycle: api.Cycle{Pass: true}}) || e != api.OK {
		t.Error(s, e)
	}
	if s := fresh(t, c, false); s.In || Check(c, s) != api.OK {
		t.Error(s)
	}
	bad := c
	bad.Floors = 1
	for i, x := range []struct {
		c      api.Config
		change func(*api.CarState)
		e      api.Errno
	}{
		{bad, func(s *api.CarState) { s.Drive.Speed = -1 }, api.ErrRange}, {c, func(s *api.CarState) { s.Drive.Speed = 1; s.Cycle.Door.Part = 9 }, api.ErrForm}, {c, func(s *api.CarState) { s.Cycle.Door.Part = 9; s.Load = -1 }, api.ErrKind}, {c, func(s *api.CarState) { s.Cycle.Pass = false; s.Load = -1 }, api.ErrForm}, {c, func(s *api.CarState) { s.Load = 10001 }, api.ErrRange}, {c, func(s *api.CarState) { s.Goal = 3 }, api.ErrRange}, {c, func(s *api.CarState) { s.Goal = -2 }, api.ErrRange}, {c, func(s *api.CarState) { s.Drive.Pos, s.Drive.Goal = 9, 9 }, api.ErrRange}, {c, func(s *api.CarState) { s.Drive = api.Drive{Goal: 9, Part: 2} }, api.ErrRange}, {c, func(s *api.CarState) { s.Drive = api.Drive{Goal: 8, Speed: 3, Part: 2} }, api.ErrForm}, {c, func(s *api.CarState) { s.Drive = api.Drive{Goal: 8, Left: 1, Part: 1} }, api.ErrForm},
	} {
		s := fresh(t, c, true)
		x.change(&s)
		n, _, a := Hear(x.c, s, 0, nil)
		r, b := Ready(x.c, s, api.Phase{})
		m, d := Choose(x.c, s, api.Phase{}, -9)
		k, served, f := Step(x.c, s, api.Phase{}, -1, true, true)
		v, g := Sight(x.c, s, api.Phase{})
		h, j := Floor(x.c, s)
		for _, e := range []api.Errno{Check(x.c, s), a, b, d, f, g, j} {
			if e != x.e {
				t.Error(i, a, b, d, f, g, j)
			}
		}
		if n != none || r || m != none || k != none || served != 0 || v != (api.Sight{}) || h != 0 {
			t.Error(i, "not zero")
		}
	}
	if s, e := New(bad, true); s != none || e != api.ErrRange {
		t.Error(s, e)
	}
	for _, x := range []struct {
		p api.Phase
		e api.Errno
	}{{api.Phase{}, api.ErrKind}, {api.Phase{Part: 1, At: 5}, api.ErrRange}, {api.Phase{Part: 2, Trip: 1}, api.ErrRange}, {api.Phase{Part: 1, Slot: -1}, api.ErrRange}} {
		s := fresh(t, c, true)
		_, a := Ready(c, s, x.p)
		_, b := Choose(c, s, x.p, -9)
		_, _, d := Step(c, s, x.p, -1, true, true)
		_, f := Sight(c, s, x.p)
		if a != x.e || b != x.e || d != x.e || f != x.e {
			t.Error(x, a, b, d, f)
		}
	}
}

func TestP31_2_P31_9(t *testing.T) {
	c := example()
	s := fresh(t, c, true)
	s.Goal = 2
	faulted := s
	faulted.Faulted, faulted.Goal, faulted.Load = true, -1, 7
	for i, x := range []struct {
		car  int
		l    []api.Entry
		want api.CarState
		obs  bool
		e    api.Errno
	}{
		{1, nil, s, false, api.OK}, {1, []api.Entry{of(1, api.Load, 70), of(1, api.BrakeFail, 0), of(1, api.Load, 7)}, faulted, false, api.OK}, {1, []api.Entry{of(2, api.Load, 70), of(1, api.Obstruct, 0), {Kind: api.AtPort, Car: 1, What: 3}, of(2, 99, 99), {Kind: 7, Car: 1}}, s, true, api.OK}, {0, nil, none, false, api.ErrRange}, {3, nil, none, false, api.ErrRange},
		{1, []api.Entry{of(1, api.Obstruct, 1)}, none, false, api.ErrRange}, {1, []api.Entry{of(1, 7, 0)}, none, false, api.ErrRange}, {1, []api.Entry{of(1, 0, 0)}, none, false, api.ErrRange}, {1, []api.Entry{of(1, api.Load, 10001)}, none, false, api.ErrRange}, {1, []api.Entry{of(1, api.Load, -1)}, none, false, api.ErrRange}, {1, []api.Entry{of(1, api.DoorFail, 2)}, none, false, api.ErrRange},
	} {
		if n, o, e := Hear(c, s, x.car, x.l); n != x.want || o != x.obs || e != x.e {
			t.Error(i, n, o, e)
		}
	}
	// The load does not matter, nor does an obstruction outside of door parts.
	for tick := range 21 {
		light, heavy := fresh(t, c, true), fresh(t, c, true)
		heavy.Load = 9999
		p := phaseOf(c, tick)
		a, _, _ := Step(c, light, p, 0, true, false)
		b, _, _ := Step(c, heavy, p, 0, true, p.Part != api.PartDoor && p.Part != api.PartPurgeDoor)
		b.Load = 0
		if p.At == 0 && a != b {
			t.Error(tick, a, b)
		}
	}
}

func TestP31_3(t *testing.T) {
	c := example()
	s := fresh(t, c, true)
	out := fresh(t, c, false)
	faulted := s
	faulted.Faulted = true
	for tick := range 21 {
		for i, x := range []api.CarState{s, out, faulted} {
			want := tick == 5 && i == 0
			ready, e := Ready(c, x, phaseOf(c, tick))
			n, f := Choose(c, x, phaseOf(c, tick), 2)
			if ready != want || e != api.OK || want && (n.Goal != 2 || f != api.OK) || !want && (n != none || f != api.ErrState) {
				t.Error(tick, i, ready, e, n, f)
			}
		}
	}
	for _, goal := range []int{-2, 3} {
		if n, e := Choose(c, s, phaseOf(c, 5), goal); n != none || e != api.ErrRange {
			t.Error(goal, n, e)
		}
		if n, e := Choose(c, s, phaseOf(c, 6), goal); n != none || e != api.ErrState {
			t.Error(goal, n, e)
		}
	}
	if n, e := Choose(c, s, phaseOf(c, 5), -1); n != s || e != api.OK {
		t.Error(n, e)
	}
	for pos, want := range []int{0, 0, 0, 1, 1, 1, 1, 2, 2} {
		s.Drive = api.Drive{Pos: pos, Goal: pos}
		if f, e := Floor(c, s); f != want || e != api.OK {
			t.Error(pos, f, e)
		}
	}
}

func TestP31_4_P31_7_P31_8(t *testing.T) {
	c := example()
	s := fresh(t, c, true)
	pos := []int{0, 0, 0, 0, 0, 1, 3, 4, 4, 4, 4, 4, 4, 3, 1, 0, 0, 0, 0, 0, 0}
	panels := []int{0, 0, 0, 0, 0, 0, 0, 0, 0, 0, 1, 1, 0, 0, 0, 0, 0, 0, 1, 1, 0}
	floors := []int{-1, -1, -1, -1, -1, 0, 1, 1, 1, 1, 1, 1, 1, 1, 0, 0, 0, 0, 0, 0, 0}
	var e api.Errno
	served := 0
	broken := s
	for tick := range 21 {
		p := phaseOf(c, tick)
		if tick == 5 {
			s, _ = Choose(c, s, p, 1)
			broken, _ = Choose(c, broken, p, 1)
		}
		s, served, e = Step(c, s, p, 0, true, false)
		v, f := Sight(c, s, p)
		if e != api.OK || f != api.OK || s.Drive.Pos != pos[tick] || v != (api.Sight{Floor: floors[tick], Panel: panels[tick]}) || (served == 1) != (tick == 10) || served != 1 && served != -1 {
			t.Error(tick, s, served, v, e, f)
		}
		if tick == 6 {
			broken, _, _ = Hear(c, broken, 1, []api.Entry{of(1, api.MotorFail, 0)})
		}
		broken, served, e = Step(c, broken, p, 0, true, true)
		v, _ = Sight(c, broken, p)
		if tick >= 6 && (e != api.OK || served != -1 || broken.Drive != (api.Drive{Pos: 1, Goal: 1}) || v != (api.Sight{Floor: -1, Out: true})) {
			t.Error(tick, broken, v, e)
		}
		out := fresh(t, c, false)
		n, served, e := Step(c, out, p, 2, true, true)
		v, _ = Sight(c, n, p)
		if n != out || served != -1 || e != api.OK || v != (api.Sight{Floor: -1, Out: true}) {
			t.Error(tick, n, v, e)
		}
	}
	for i, x := range []struct {
		change func(*api.CarState)
		tick   int
		home   int
		e      api.Errno
	}{{func(s *api.CarState) {}, 5, 3, api.ErrRange}, {func(s *api.CarState) {}, 5, -1, api.ErrRange}, {func(s *api.CarState) { s.Goal = 2; s.Drive = api.Drive{Goal: 4, Part: 2} }, 5, 0, api.ErrState}, {func(s *api.CarState) { s.Drive = api.Drive{Goal: 4, Part: 2} }, 13, 0, api.ErrState}, {func(s *api.CarState) { s.Drive = api.Drive{Goal: 4, Part: 2} }, 5, 0, api.OK}, {func(s *api.CarState) { s.Cycle.At = 3 }, 11, 0, api.ErrState}, {func(s *api.CarState) { s.Cycle.At = 3 }, 10, 0, api.OK}, {func(s *api.CarState) { s.Cycle.At = 3; s.In = false }, 11, 0, api.OK}} {
		s := fresh(t, c, true)
		x.change(&s)
		if n, served, e := Step(c, s, phaseOf(c, x.tick), x.home, true, true); e != x.e || e != api.OK && (n != none || served != 0) {
			t.Error(i, n, served, e)
		}
	}
	// A door that is open closes at once, whatever obstructs.
	l := larger()
	o := api.CarState{In: true, Faulted: true, Goal: -1, Cycle: api.Cycle{Door: api.Door{Part: 2, Panel: 3, Left: 1}, At: 4}}
	for want := 2; want >= 0; want-- {
		o, _, e = Step(l, o, api.Phase{Part: api.PartHoming}, 0, true, true)
		if v, _ := Sight(l, o, api.Phase{Part: 3}); o.Cycle.Door.Panel != want || v != (api.Sight{Floor: -1, Panel: want, Out: true}) || e != api.OK {
			t.Error(want, o, v, e)
		}
	}
}

func TestP31_5_P31_6(t *testing.T) {
	r := rand.New(rand.NewSource(31))
	served := map[int]int{}
	for range 300 {
		c := larger()
		x, _ := config.Times(c)
		s := fresh(t, c, true)
		chosen, open := -1, false
		for tick := range x.Slot {
			p := phaseOf(c, tick)
			var l []api.Entry
			if r.Intn(10) == 0 {
				l = append(l, of(1, api.Obstruct, 0))
			}
			if r.Intn(2000) == 0 {
				l = append(l, of(1, 3+r.Intn(4), 0))
			}
			heard, obstructed, e := Hear(c, s, 1, l)
			if ready, _ := Ready(c, heard, p); ready {
				chosen = r.Intn(4) - 1
				heard, _ = Choose(c, heard, p, chosen)
			}
			if p.At == 0 {
				open = r.Intn(4) > 0
			}
			next, at, f := Step(c, heard, p, 1, open, obstructed)
			if e != api.OK || f != api.OK || Check(c, next) != api.OK || next.Drive.Part != api.AtRest && next.Cycle.Door.Panel > 0 {
				t.Fatal(tick, heard, next, e, f)
			}
			if at >= 0 {
				served[at]++
				if p.Part != api.PartDoor || at != chosen || next.Drive.Pos != []int{0, 7, 20}[at] || !open {
					t.Fatal(tick, at, next)
				}
			}
			if next.Faulted && (next.Drive.Pos != s.Drive.Pos || next.Cycle.Door.Panel != max(s.Cycle.Door.Panel-1, 0)) {
				t.Fatal(tick, s, next)
			}
			s = next
		}
		if s.Cycle.Door.Panel != 0 || s.Drive.Part != api.AtRest {
			t.Fatal(s)
		}
	}
	if len(served) != 3 {
		t.Error(served)
	}
}

func TestP31Homing(t *testing.T) {
	c := larger()
	x, _ := config.Times(c)
	for home, pos := range []int{0, 7, 20} {
		s := fresh(t, c, true)
		for tick := range x.Move {
			n, served, e := Step(c, s, phaseOf(c, tick), home, true, true)
			want := 0
			if tick == x.Move-1 {
				want = pos
			}
			if n.Drive != (api.Drive{Pos: want, Goal: want}) || served != -1 || e != api.OK {
				t.Error(home, tick, n, e)
			}
			s = n
		}
	}
}
