package bound

import (
	"math/rand"
	"reflect"
	"slices"
	"testing"

	"tipstaff/api"
	"tipstaff/config"
	"tipstaff/group"
	"tipstaff/wire"
)

// example has Trips 3, two slots (Public, Staff) of one car, and Calls 8 for Public: a slot has 2 + 4 * 5 ticks.
func example() api.Config {
	return api.Config{
		Floors: 3, Gaps: []int{1, 1}, Cars: 1, Speed: 1, Width: 1, Dwell: 1, Trips: 3, Slots: 2, Life: 50, Empty: 5, Full: 100,
		Rota: [][]int{{1, 2}}, Rules: [3]api.Rule{{Mask: 7, Calls: 8}, {Mask: 7, Calls: 3}, {Mask: 7, Calls: 4}}, Keys: []int{7},
	}
}

// shared has all domains.
func shared(trips int) api.Config {
	c := example()
	c.Cars, c.Trips, c.Slots, c.Rota, c.Life = 2, trips, 3, [][]int{{1, 2, 3}, {3, 0, 1}}, 100000
	return c
}

func frame(tag, kind, a, b int) string {
	s, _ := wire.Encode(api.Frame{Tag: tag, Event: api.Event{Kind: kind, A: a, B: b}})
	return s
}

func atPort(tick, port int, data string) api.Entry {
	return api.Entry{Tick: tick, Kind: api.AtPort, Port: port, Data: data}
}

func atCar(tick, car, what, value int) api.Entry {
	return api.Entry{Tick: tick, Kind: api.AtCar, Car: car, What: what, Value: value}
}

func of(length int, l ...api.Entry) api.Script { return api.Script{Length: length, Entries: l} }

func TestP41_1_P41_6(t *testing.T) {
	c := example()
	x, _ := config.Times(c)
	if n, e := Share(c); n != 2 || e != api.OK {
		t.Error(n, e)
	}
	for d, want := range map[int]int{1: 8 * x.Cycle, 2: 6 * x.Cycle} {
		if n, e := Ticks(c, d); n != want || e != api.OK {
			t.Error(d, n, e)
		}
	}
	for d, want := range map[int]api.Errno{3: api.ErrMissing, 0: api.ErrRange, 4: api.ErrRange} {
		if n, e := Ticks(c, d); n != 0 || e != want {
			t.Error(d, n, e)
		}
	}
	for trips, want := range map[int]int{1: 1, 2: 1, 3: 2, 4: 2, 16: 8} {
		c.Trips = trips
		if n, e := Share(c); n != want || e != api.OK {
			t.Error(trips, n, e)
		}
	}
	bad := c
	bad.Keys = []int{7, 7}
	broken := of(-1)
	_, a := Share(bad)
	_, b := Ticks(bad, 0)
	_, d := Calls(bad, broken)
	_, f := Waits(bad, broken)
	_, g := Wait(bad, broken, -1)
	_, h := Good(bad, broken, 0, 0, -1)
	_, j := Late(bad, broken)
	if got := []api.Errno{a, b, d, f, g, h, j}; slices.ContainsFunc(got, func(e api.Errno) bool { return e != api.ErrOrder }) {
		t.Error(got)
	}
	c = example()
	before := 0
	for calls := 1; calls <= 32; calls++ {
		c.Rules[0].Calls = calls
		n, _ := Ticks(c, 1)
		if n < before || n != ((calls+1)/2+4)*x.Cycle {
			t.Error(calls, n)
		}
		before = n
	}
	c = example()
	a1, _ := Ticks(c, 1)
	c.Slots, c.Rota = 3, [][]int{{1, 2, 0}}
	if a2, _ := Ticks(c, 1); a2 < a1 {
		t.Error(a1, a2)
	}
}

func TestP41_2_P41_7(t *testing.T) {
	c := example()
	for i, x := range []struct {
		s api.Script
		e api.Errno
	}{{of(-1), api.ErrRange}, {of(5001), api.ErrRange}, {of(5001, api.Entry{}), api.ErrKind}, {of(9, atCar(1, 2, 2, 0)), api.ErrRange}, {of(9, atPort(5, 0, ""), atPort(4, 0, "")), api.ErrOrder}, {of(9, atPort(0, 0, "12345678901234567")), api.ErrLong}} {
		l, a := Calls(c, x.s)
		w, b := Waits(c, x.s)
		n, d := Wait(c, x.s, -1)
		g, f := Good(c, x.s, 0, 0, -1)
		k, h := Late(c, x.s)
		if l != nil || w != nil || n != 0 || g || k != nil || a != x.e || b != x.e || d != x.e || f != x.e || h != x.e {
			t.Error(i, a, b, d, f, h)
		}
	}
	s := of(200, atPort(0, 0, frame(1, api.EvHall, 2, 1)), atPort(0, 1, frame(1, api.EvKey, 7, 0)), atPort(0, 2, "abc"), atPort(0, 9, frame(1, api.EvHall, 2, 1)), atPort(1, 0, frame(1, api.EvHall, 2, 1)), atPort(1, 8, frame(2, api.EvHall, 1, 2)), atCar(1, 1, 2, 0), atPort(190, 8, frame(2, api.EvHall, 0, 1)))
	if l, e := Calls(c, s); !slices.Equal(l, []int{0, 4, 5, 7}) || e != api.OK {
		t.Error(l, e)
	}
	// The first trip begins at 2, and its door part at 4: the door becomes open in this tick. That of Staff is one slot later.
	want := []api.Waited{{Entry: 0, Domain: 1, Floor: 2, Up: true, At: 0, Wait: 4}, {Entry: 5, Domain: 2, Floor: 1, At: 1, Wait: 25}, {Entry: 7, Domain: 2, Floor: 0, Up: true, At: 190, Wait: -1}}
	if l, e := Waits(c, s); !slices.Equal(l, want) || e != api.OK {
		t.Error(l, e)
	}
	now := of(30, atPort(4, 0, frame(1, api.EvHall, 0, 1)), atPort(4, 0, frame(1, api.EvHall, 0, 2)), atPort(7, 0, frame(1, api.EvHall, 0, 1)))
	if l, _ := Waits(c, now); len(l) != 2 || l[0].Wait != 5 || l[1].Wait != 5 || l[0].Up == l[1].Up {
		t.Error(l)
	}
}

// slow finds the waits another way: for each accepted call all views are gone through.
func slow(c api.Config, s api.Script) []api.Waited {
	g, _ := group.New(c)
	views, _ := g.Run(s)
	entries, _ := Calls(c, s)
	var l []api.Waited
	for _, n := range entries {
		e := s.Entries[n]
		d, at := e.Port/8, 0
		for _, x := range s.Entries[:n] {
			if x.Tick == e.Tick && x.Kind == api.AtPort && x.Port/8 == d {
				at++
			}
		}
		if views[e.Tick][d].Replies[at].Code != api.Accepted {
			continue
		}
		f, _ := wire.Decode(e.Data)
		w := api.Waited{Entry: n, Domain: d + 1, Floor: f.Event.A, Up: f.Event.B == 1, At: e.Tick, Wait: -1}
		for tick := e.Tick; tick < s.Length && w.Wait < 0; tick++ {
			lit := views[tick][d].Down
			if w.Up {
				lit = views[tick][d].Up
			}
			if lit>>w.Floor&1 == 0 {
				w.Wait = tick - e.Tick
			}
		}
		l = append(l, w)
	}
	return l
}

func random(r *rand.Rand, c api.Config, length, faults int) api.Script {
	s := api.Script{Length: length}
	for tick := range length {
		for r.Intn(4) == 0 && len(s.Entries) < api.MaxEntries {
			d := 1 + r.Intn(3)
			e := atPort(tick, 8*(d-1)+r.Intn(8), frame(d, api.EvHall, r.Intn(c.Floors), 1+r.Intn(2)))
			switch r.Intn(10) {
			case 0, 1:
				e.Data = frame(d, api.EvCar, 1+r.Intn(c.Cars), r.Intn(c.Floors))
			case 2:
				e.Data = frame(d, api.EvKey, 7, 0)
			case 3:
				e = atCar(tick, 1+r.Intn(c.Cars), api.Obstruct, 0)
			case 4:
				if r.Intn(100) < faults {
					e = atCar(tick, 1+r.Intn(c.Cars), 1+2*r.Intn(3), 0)
				}
			}
			s.Entries = append(s.Entries, e)
		}
	}
	return s
}

func TestP41_3_P41_5(t *testing.T) {
	c := example()
	s := of(200, atPort(0, 0, frame(1, api.EvHall, 2, 1)), atPort(0, 1, frame(1, api.EvKey, 7, 0)), atPort(0, 2, "abc"), atPort(1, 0, frame(1, api.EvHall, 2, 1)), atPort(199, 8, frame(2, api.EvHall, 0, 1)), atCar(199, 1, 2, 0))
	for i, x := range []struct {
		n, wait int
		e       api.Errno
	}{{0, 4, api.OK}, {1, 0, api.ErrKind}, {2, 0, api.ErrKind}, {3, 0, api.ErrState}, {4, 0, api.ErrMissing}, {5, 0, api.ErrKind}, {6, 0, api.ErrRange}, {-1, 0, api.ErrRange}} {
		if n, e := Wait(c, s, x.n); n != x.wait || e != x.e {
			t.Error(i, n, e)
		}
	}
	r := rand.New(rand.NewSource(41))
	long := 0
	for i := range 12 {
		c := shared(1 + i%4)
		s := random(r, c, 1500, 20*(i%3))
		l, e := Waits(c, s)
		if e != api.OK || !reflect.DeepEqual(l, slow(c, s)) {
			t.Fatal(i, e)
		}
		entries, _ := Calls(c, s)
		for _, w := range l {
			long = max(long, w.Wait)
			if w.Wait < -1 || w.Wait >= s.Length || !slices.Contains(entries, w.Entry) {
				t.Error(i, w)
			}
		}
		if late, e := Late(c, s); len(late) != 0 || e != api.OK {
			t.Error(i, late, e)
		}
	}
	if long < 100 {
		t.Error(long)
	}
}

func TestP41_4_P41_8(t *testing.T) {
	c := example() // A slot has 22 ticks.
	x, _ := config.Times(c)
	if x.Slot != 22 {
		t.Fatal(x)
	}
	key := frame(3, api.EvKey, 7, 0)
	d := c
	d.Rota = [][]int{{1, 3}}
	for i, x := range []struct {
		c         api.Config
		s         api.Script
		domain, n int
		want      bool
	}{
		{c, of(100), 1, 0, true}, {c, of(100), 3, 0, false}, {c, of(100, atCar(5, 1, api.MotorFail, 0)), 1, 0, false}, {c, of(100, atCar(5, 1, api.MotorFail, 0)), 1, 5, false}, {c, of(100, atCar(5, 1, api.MotorFail, 0)), 1, 6, true}, {c, of(100, atCar(5, 1, api.Load, 6), atCar(20, 1, api.Load, 0)), 1, 0, true}, {c, of(100, atCar(5, 1, api.Load, 6), atCar(21, 1, api.Load, 5)), 1, 0, true}, {c, of(100, atCar(5, 1, api.Load, 6), atCar(22, 1, api.Load, 0)), 1, 0, false}, {c, of(100, atCar(5, 1, api.Load, 6), atCar(22, 1, api.Load, 0)), 1, 22, true}, {c, of(100, atCar(5, 1, api.Load, 6), atCar(22, 1, api.Load, 0)), 1, 21, false}, {c, of(100, atCar(90, 1, api.Load, 6)), 1, 0, true},
		{c, of(100, atCar(5, 1, api.Load, 101), atCar(6, 1, api.Load, 0)), 1, 5, false}, {c, of(100, atCar(5, 1, api.Load, 101), atCar(6, 1, api.Load, 0)), 1, 6, true}, {c, of(100, atCar(5, 1, api.Load, 101), atCar(5, 1, api.Load, 0)), 1, 5, true}, {c, of(100, atCar(5, 1, api.Load, 101)), 1, 6, false}, {c, of(100, atCar(5, 1, api.Load, 100), atCar(6, 1, api.Load, 0)), 1, 0, true}, {c, of(100, atPort(9, 0, frame(1, api.EvMode, 1, 2))), 1, 50, false}, {c, of(100, atPort(9, 0, frame(1, api.EvMode, 1, 0))), 1, 0, true}, {c, of(100, atPort(9, 0, frame(2, api.EvMode, 1, 2))), 1, 0, true}, {c, of(100, atPort(9, 8, frame(2, api.EvMode, 1, 2))), 1, 0, true}, {c, of(100, atCar(5, 1, api.Obstruct, 0)), 1, 0, true},
		{d, of(60, atPort(5, 16, key)), 3, 5, false}, {d, of(55, atPort(5, 16, key)), 3, 5, true}, {d, of(55, atPort(5, 16, key)), 3, 4, false}, {d, of(60, atPort(5, 16, key), atPort(50, 16, key)), 3, 5, true}, {d, of(60, atPort(5, 16, key), atPort(56, 16, key)), 3, 5, false}, {d, of(55, atPort(5, 16, frame(3, api.EvKey, 8, 0))), 3, 5, false}, {d, of(55, atPort(5, 0, frame(1, api.EvKey, 7, 0))), 3, 5, false}, {d, of(60), 3, 60, true}, {d, of(60), 1, 0, true}, {d, of(60), 2, 0, false},
	} {
		got, e := Good(x.c, x.s, x.domain, 1, x.n)
		if got != x.want || e != api.OK {
			t.Error(i, got, e)
		}
		for n := x.n; got && n <= x.s.Length; n++ {
			if later, _ := Good(x.c, x.s, x.domain, 1, n); !later {
				t.Error(i, n)
			}
		}
	}
	for _, x := range [][3]int{{0, 1, 0}, {4, 1, 0}, {1, 0, 0}, {1, 2, 0}, {1, 1, -1}, {1, 1, 101}} {
		if got, e := Good(c, of(100), x[0], x[1], x[2]); got || e != api.ErrRange {
			t.Error(x, got, e)
		}
	}
}

func TestP41_4Late(t *testing.T) {
	c := example()
	c.Rules[0].Calls = 1
	// Both cars would have to fail: with the only one out of service the call waits, and is not late.
	s := of(1000, atPort(0, 0, frame(1, api.EvHall, 2, 1)))
	for tick := range 1000 {
		if tick%22 == 1 {
			s.Entries = append(s.Entries, atCar(tick, 1, api.MotorFail, 0))
		}
	}
	if l, e := Waits(c, s); len(l) != 1 || l[0].Wait != -1 || e != api.OK {
		t.Error(l, e)
	}
	if l, e := Late(c, s); len(l) != 0 || e != api.OK {
		t.Error(l, e)
	}
	w := api.Waited{Entry: 0, Domain: 1, Floor: 2, Up: true, At: 0, Wait: -1}
	most, _ := Ticks(c, 1)
	if isLate(c, of(most+1), w) || !isLate(c, of(most+2), w) || isLate(c, s, w) {
		t.Error("a call that is not served")
	}
	for wait, late := range map[int]bool{most: false, most + 1: true} {
		w.Wait = wait
		if isLate(c, of(most+5), w) != late {
			t.Error(wait)
		}
	}
	w.Domain = 3
	if isLate(c, of(5000), w) {
		t.Error("a domain without slots")
	}
}

func TestP41Bounds(t *testing.T) {
	c := shared(1)
	other := of(100, atCar(5, 2, api.Load, 101), atCar(6, 2, api.MotorFail, 0), atPort(7, 0, frame(1, api.EvMode, 2, 2)))
	if got, e := Good(c, other, 1, 1, 0); !got || e != api.OK {
		t.Error(got, e)
	}
	if got, e := Good(c, other, 1, 2, 0); got || e != api.OK {
		t.Error(got, e)
	}
	if l, e := Calls(c, of(5000)); len(l) != 0 || e != api.OK {
		t.Error(l, e)
	}
	if l, e := Waits(c, of(0)); len(l) != 0 || e != api.OK {
		t.Error(l, e)
	}
	mistagged := of(9, atPort(0, 8, frame(1, api.EvHall, 1, 1)), atPort(0, 0, frame(1, api.EvHall, 3, 1)))
	if l, e := Calls(c, mistagged); len(l) != 0 || e != api.OK {
		t.Error(l, e)
	}
}
