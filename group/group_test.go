package group

import (
	"math/rand"
	"reflect"
	"slices"
	"testing"

	"tipstaff/api"
	"tipstaff/phase"
	"tipstaff/product"
	"tipstaff/wire"
)

func example() api.Config {
	return api.Config{
		Floors: 3, Gaps: []int{4, 4}, Cars: 2, Speed: 2, Width: 1, Dwell: 1, Trips: 1, Slots: 2, Life: 50, Full: 100,
		Rota: [][]int{{1, 2}, {0, 0}}, Rules: [3]api.Rule{{Mask: 7, Calls: 4}, {Mask: 7, Calls: 4}, {Mask: 7, Calls: 4}}, Keys: []int{7},
	}
}

// shared has slots of all domains for all cars, brakes, retries, and floors that not all may use.
func shared() api.Config {
	c := example()
	c.Floors, c.Gaps, c.Cars, c.Brake, c.Tol, c.Width, c.Dwell, c.Retries, c.Trips, c.Slots, c.Empty = 4, []int{4, 7, 3}, 3, 1, 1, 2, 2, 1, 3, 4, 10
	c.Rota = [][]int{{1, 2, 3, 0}, {1, 3, 3, 1}, {2, 1, 3, 1}}
	c.Rules = [3]api.Rule{{Mask: 15, Home: 0, Calls: 6}, {Mask: 7, Home: 2, Calls: 3}, {Mask: 13, Home: 3, Calls: 4}}
	return c
}

func frame(tag, kind, a, b int) string {
	s, _ := wire.Encode(api.Frame{Tag: tag, Event: api.Event{Kind: kind, A: a, B: b}})
	return s
}

func atPort(tick, port int, data string) api.Entry {
	return api.Entry{Tick: tick, Kind: api.AtPort, Port: port, Data: data}
}

func atCar(tick, car, what, value int) api.Entry {
	return api.Entry{Tick: tick, Kind: api.AtCar, Car: car, What: what, Value: value}
}

func fresh(t *testing.T, c api.Config) *Group {
	g, e := New(c)
	if e != api.OK {
		t.Fatal(e)
	}
	return g
}

func step(t *testing.T, g *Group, l ...api.Entry) []api.View {
	t.Helper()
	v, e := g.Step(l)
	if e != api.OK || len(v) != 3 {
		t.Fatal(g.Now(), e)
	}
	return v
}

func TestP37_1(t *testing.T) {
	bad := example()
	bad.Keys = []int{7, 7}
	if g, e := New(bad); g != nil || e != api.ErrOrder {
		t.Error(g, e)
	}
	real := fresh(t, example())
	stolen := *real
	for i, g := range []*Group{nil, {}, &stolen} {
		v, a := g.Step(nil)
		r, b := g.Run(api.Script{Length: -1})
		w, ok := g.Word()
		if v != nil || a != api.ErrNil || r != nil || b != api.ErrNil || g.Copy() != nil || g.Now() != 0 || w != 0 || ok || !reflect.DeepEqual(g.Snapshot(), api.Snapshot{}) {
			t.Error(i, v, a, r, b)
		}
	}
	if c := real.Copy(); c == nil || c == real {
		t.Error(c)
	}
}

func TestP37_2_P37_4(t *testing.T) {
	c := example()
	g := fresh(t, c)
	if w, ok := g.Word(); g.Now() != 0 || w != 0 || ok {
		t.Error(g.Now(), w, ok)
	}
	s := g.Snapshot()
	if s.Tick != -1 || len(s.Bodies) != 2 || s.Bodies[0] != (api.BodyView{In: true, Goal: -1}) || s.Bodies[1] != s.Bodies[0] || len(s.Tables) != 3 || s.Tables[2].Cap != 4 || !reflect.DeepEqual(s.Config, c) {
		t.Error(s)
	}
	for i, x := range []struct {
		l []api.Entry
		e api.Errno
	}{
		{[]api.Entry{atPort(1, 0, "")}, api.ErrOrder}, {[]api.Entry{atPort(0, 24, "")}, api.ErrRange}, {[]api.Entry{atPort(0, -1, "")}, api.ErrRange}, {[]api.Entry{atCar(0, 3, 1, 0)}, api.ErrRange}, {[]api.Entry{atCar(0, 0, 1, 0)}, api.ErrRange}, {[]api.Entry{{Kind: 3, Port: 99}}, api.ErrKind}, {make([]api.Entry, 2001), api.ErrRange}, {make([]api.Entry, 2000), api.ErrKind}, {[]api.Entry{atPort(0, 0, frame(1, 1, 1, 1)), atPort(1, 24, "")}, api.ErrRange}, {[]api.Entry{atPort(0, 0, frame(1, 1, 1, 1)), atPort(1, 2, ""), atPort(0, 24, "")}, api.ErrOrder}, {[]api.Entry{atCar(0, 1, 7, 0)}, api.ErrRange}, {[]api.Entry{atCar(0, 1, 0, 0)}, api.ErrRange}, {[]api.Entry{atCar(0, 1, 1, 10001)}, api.ErrRange}, {[]api.Entry{atCar(0, 1, 2, 1)}, api.ErrRange},
	} {
		if v, e := g.Step(x.l); v != nil || e != x.e || !reflect.DeepEqual(g.Snapshot(), s) || g.Now() != 0 {
			t.Error(i, v, e)
		}
	}
	v := step(t, g, atPort(0, 0, frame(1, 1, 2, 1)), atPort(0, 8, frame(2, 1, 1, 2)))
	if !slices.Equal(v[0].Replies, []api.Reply{{Port: 0, Code: 1}}) || !slices.Equal(v[1].Replies, []api.Reply{{Port: 8, Code: 1}}) || v[2].Replies != nil || v[0].Up != 4 || v[0].Down+v[1].Up+v[2].Up != 0 || v[1].Down != 2 || v[0].Word != -1 {
		t.Error(v)
	}
	for range 5 {
		v = step(t, g)
	}
	if b := g.Snapshot().Bodies[0]; b != (api.BodyView{Domain: 1, Pos: 1, Speed: 1, Motor: true, In: true, Goal: 2}) || g.Snapshot().Bodies[1] != (api.BodyView{In: true, Goal: -1}) {
		t.Error(b)
	}
	for range 5 {
		v = step(t, g)
	}
	if b := g.Snapshot().Bodies[0]; v[0].Tick != 10 || v[0].Sights[0] != (api.Sight{Floor: 2, Panel: 1}) || v[0].Up != 0 || v[1].Sights[0] != (api.Sight{Floor: -1}) || v[1].Down != 2 || b != (api.BodyView{Domain: 1, Pos: 8, Panel: 1, In: true, Goal: 2, Began: true}) {
		t.Error(v, b)
	}
	step(t, g)
	step(t, g)
	v = step(t, g, atCar(13, 1, api.MotorFail, 0))
	if v[0].Sights[0] != (api.Sight{Floor: -1, Out: true}) || v[1].Sights[0] != (api.Sight{Floor: -1}) || g.Snapshot().Bodies[0].Faulted != true {
		t.Error(v)
	}
	for range 7 {
		step(t, g)
	}
	copied := g.Copy()
	v = step(t, g)
	if w, ok := g.Word(); v[0].Word != 1 || v[1].Word != 1 || v[2].Word != 1 || v[1].Sights[0] != (api.Sight{Floor: -1, Out: true}) || v[0].Sights[0] != (api.Sight{Floor: -1}) || w != 1 || !ok {
		t.Error(v, w, ok)
	}
	for g.Now() < 42 {
		step(t, g)
	}
	v = step(t, g)
	if w, ok := g.Word(); v[2].Word != 0 || v[0].Sights[0] != (api.Sight{Floor: -1}) || w != 0 || !ok || v[1].Down != 2 {
		t.Error(v, w, ok)
	}
	if copied.Now() != 21 {
		t.Error(copied.Now())
	}
	s = g.Snapshot()
	s.Bodies[0].Pos, s.Config.Gaps[0], s.Tables[1].Calls[0].Floor, s.Config.Rota[0][0] = 99, 99, 99, 9
	if n := g.Snapshot(); n.Bodies[0].Pos == 99 || n.Config.Gaps[0] == 99 || n.Tables[1].Calls[0].Floor == 99 || n.Config.Rota[0][0] == 9 {
		t.Error("shared memory")
	}
	g.now = api.MaxTick
	if v, e := g.Step(make([]api.Entry, 2001)); v != nil || e != api.ErrFull {
		t.Error(v, e)
	}
}

// random returns a script with many kinds of entries.
func random(r *rand.Rand, c api.Config, length int) api.Script {
	s := api.Script{Length: length}
	for tick := range length {
		for r.Intn(3) == 0 && len(s.Entries) < api.MaxEntries {
			d := 1 + r.Intn(3)
			e := atPort(tick, 8*(d-1)+r.Intn(8), frame(d, api.EvHall, r.Intn(c.Floors), 1+r.Intn(2)))
			switch r.Intn(12) {
			case 0, 1:
				e.Data = frame(d, api.EvCar, 1+r.Intn(c.Cars), r.Intn(c.Floors))
			case 2:
				e.Data = frame(d, api.EvKey, 7+r.Intn(2), 0)
			case 3:
				e.Data = frame(d, api.EvMode, 1+r.Intn(c.Cars), r.Intn(4)*r.Intn(2))
			case 4:
				e.Data = frame(1+r.Intn(3), 1+r.Intn(4), r.Intn(5), r.Intn(4))
			case 5, 6:
				e = atCar(tick, 1+r.Intn(c.Cars), api.Obstruct, 0)
			case 7:
				e = atCar(tick, 1+r.Intn(c.Cars), api.Load, r.Intn(6)+r.Intn(12)/11*r.Intn(60))
			case 8:
				if r.Intn(12) == 0 {
					e = atCar(tick, 1+r.Intn(c.Cars), 3+r.Intn(4), 0)
				}
			}
			s.Entries = append(s.Entries, e)
		}
	}
	return s
}

func TestP37_3_P37_9(t *testing.T) {
	c := shared()
	r := rand.New(rand.NewSource(37))
	s := random(r, c, 600)
	g := fresh(t, c)
	views, e := g.Run(s)
	if e != api.OK || len(views) != 600 || g.Now() != 600 {
		t.Fatal(e)
	}
	one := fresh(t, c)
	half := one
	for tick := range 600 {
		var l, changing []api.Entry
		for _, x := range s.Entries {
			if x.Tick == tick {
				l = append(l, x)
			}
		}
		if tick == 300 {
			half = one.Copy()
		}
		at := [3]int{}
		for _, x := range l {
			if x.Kind == api.AtPort {
				d := x.Port / 8
				at[d]++
				if views[tick][d].Replies[at[d]-1].Code != api.Accepted {
					continue
				}
			}
			changing = append(changing, x)
		}
		other := one.Copy()
		v := step(t, one, l...)
		step(t, other, changing...)
		if !reflect.DeepEqual(v, views[tick]) || !reflect.DeepEqual(one.Snapshot(), other.Snapshot()) {
			t.Fatal(tick)
		}
	}
	if half.Now() != 300 || !reflect.DeepEqual(one.Snapshot(), g.Snapshot()) {
		t.Error(half.Now())
	}
	for i, x := range []struct {
		s api.Script
		e api.Errno
	}{{api.Script{Length: -1}, api.ErrRange}, {api.Script{Length: 5001}, api.ErrRange}, {api.Script{Length: 1, Entries: []api.Entry{{Kind: 9}, atPort(1, 0, "")}}, api.ErrOrder}, {api.Script{Length: 2, Entries: []api.Entry{atPort(1, 24, ""), atPort(0, 0, "")}}, api.ErrOrder}, {api.Script{Length: 2, Entries: []api.Entry{atPort(-1, 24, "")}}, api.ErrOrder}, {api.Script{Length: 2, Entries: []api.Entry{atPort(0, 0, frame(1, 1, 1, 1)), {Kind: 9, Tick: 1}, atPort(1, 24, "")}}, api.ErrKind}, {api.Script{Length: 2, Entries: []api.Entry{atPort(1, 24, "")}}, api.ErrRange}} {
		n := fresh(t, c)
		if v, e := n.Run(x.s); v != nil || e != x.e || !reflect.DeepEqual(n.Snapshot(), fresh(t, c).Snapshot()) {
			t.Error(i, v, e)
		}
	}
	if v, e := g.Run(api.Script{}); v != nil || e != api.ErrOrder {
		t.Error(v, e)
	}
	if v, e := fresh(t, c).Run(api.Script{}); len(v) != 0 || e != api.OK {
		t.Error(v, e)
	}
	if v, e := fresh(t, c).Run(api.Script{Length: 5000}); len(v) != 5000 || e != api.OK {
		t.Error(e)
	}
}

func TestP37_5_P37_6_P37_7_P37_8(t *testing.T) {
	c := shared()
	pos := []int{0, 4, 11, 14}
	r := rand.New(rand.NewSource(5))
	for range 6 {
		s := random(r, c, 1500)
		g := fresh(t, c)
		before := g.Snapshot()
		for tick, l := range ticks(s) {
			v := step(t, g, l...)
			now := g.Snapshot()
			p, _ := phase.Of(g.t, tick)
			first, last := p.Part == api.PartHoming && p.At == 0, p.Part == api.PartPurgeDoor && p.At == g.t.Door-1
			if (v[0].Word >= 0) != (first && tick > 0) || v[0].Word != v[1].Word || v[1].Word != v[2].Word {
				t.Fatal(tick, v)
			}
			for i, b := range now.Bodies {
				working := b.In && !b.Faulted && b.Goal >= 0
				grows := b.Panel > 0 && before.Bodies[i].Panel == 0
				if b.Motor && b.Panel > 0 || b.Panel > 0 && b.Speed > 0 || last && (b.Panel > 0 || g.bodies[i].Part != api.AtRest) {
					t.Fatal(tick, b)
				}
				if (p.Part == api.PartDoor || p.Part == api.PartPurgeDoor) && working && b.Domain > 0 && b.Pos != pos[b.Goal] {
					t.Fatal(tick, b)
				}
				if grows && (!working || c.Rules[b.Domain-1].Mask>>b.Goal&1 == 0 || b.Domain == api.Detainee && !b.Key) {
					t.Fatal(tick, b)
				}
				fails := slices.ContainsFunc(l, func(e api.Entry) bool { return e.Kind == api.AtCar && e.Car == i+1 && e.What >= api.MotorFail })
				if first && (b.Faulted != fails || b.Goal >= 0 || b.In != (tick == 0 || v[0].Word>>i&1 == 0)) {
					t.Fatal(tick, b)
				}
			}
			before = now
		}
	}
}

// TestP37Product compares the group with the product of three automata, which say the same in another way.
func TestP37Product(t *testing.T) {
	r := rand.New(rand.NewSource(39))
	for i := range 6 {
		c := shared()
		c.Trips, c.Dwell, c.Retries, c.Life = 1+i%4, 1+i%3, i%3, 40+40*i
		s := random(r, c, 900)
		g := fresh(t, c)
		all, e := g.Run(s)
		v, f := product.Views(c, s)
		if e != api.OK || f != api.OK {
			t.Fatal(e, f)
		}
		for tick, three := range all {
			for d := range three {
				if !reflect.DeepEqual(three[d], v[d][tick]) {
					t.Fatal(i, tick, d, three[d], v[d][tick])
				}
			}
		}
	}
}

func TestP37Bodies(t *testing.T) {
	c := example()
	c.Rules[0].Home = 2
	g := fresh(t, c)
	pos, speed := []int{1, 3, 5, 7, 8}, []int{1, 2, 2, 2, 1}
	for i := range pos {
		v := step(t, g)
		if b := g.Snapshot().Bodies[0]; b != (api.BodyView{Domain: 1, Pos: pos[i], Speed: speed[i], Motor: true, In: true, Goal: -1}) || v[0].Sights[0] != (api.Sight{Floor: -1}) {
			t.Error(i, b)
		}
	}
	step(t, g, atPort(5, 0, frame(1, api.EvHall, 0, 1)), atCar(5, 1, api.Load, 7), atPort(5, 16, frame(3, api.EvKey, 7, 0)))
	if b := g.Snapshot().Bodies; b[0] != (api.BodyView{Domain: 1, Pos: 7, Speed: 1, Motor: true, Load: 7, In: true, Goal: 0, Key: true}) || b[1] != (api.BodyView{In: true, Goal: -1, Key: true}) {
		t.Error(b)
	}
	for g.Now() < 13 {
		step(t, g)
	}
	step(t, g)
	if b := g.Snapshot().Bodies[0]; b.Goal != 2 || b.Began || b.Pos != 1 {
		t.Error(b)
	}
	first := fresh(t, c)
	step(t, first, atPort(0, 16, frame(3, api.EvKey, 7, 0)))
	if !first.Snapshot().Bodies[0].Key || first.Snapshot().Tick != 0 {
		t.Error(first.Snapshot())
	}
	first = fresh(t, c)
	step(t, first, atPort(0, 16, frame(3, api.EvKey, 8, 0)), atPort(0, 0, frame(1, api.EvKey, 7, 0)))
	if first.Snapshot().Bodies[0].Key {
		t.Error(first.Snapshot())
	}
}

// TestP37Faults compares the group with the product when a car fails in one tick or another, also while its door is open and obstructed.
func TestP37Faults(t *testing.T) {
	c := shared()
	g := fresh(t, c)
	open := 0
	for at := range 2 * g.t.Slot {
		var l []api.Entry
		for tick := range at + 1 {
			if tick%g.t.Slot == 2 {
				for d := 1; d <= 3; d++ {
					l = append(l, atPort(tick, 8*(d-1), frame(d, api.EvHall, 2*(d%2), 1)), atPort(tick, 8*(d-1), frame(d, api.EvHall, 2, 2)), atPort(tick, 8*(d-1), frame(d, api.EvKey, 7, 0)))
				}
			}
			if tick%7 < 3 && tick < at {
				l = append(l, atCar(tick, 1+tick%3, api.Obstruct, 0))
			}
		}
		l = append(l, atCar(at, 1+at%2, api.MotorFail, 0), atCar(at, 1+at%2, api.Obstruct, 0))
		s := api.Script{Length: at + g.t.Door + 2, Entries: l}
		g := fresh(t, c)
		all, e := g.Run(s)
		v, f := product.Views(c, s)
		if e != api.OK || f != api.OK {
			t.Fatal(e, f)
		}
		for tick, three := range all {
			for d := range three {
				if !reflect.DeepEqual(three[d], v[d][tick]) {
					t.Fatal(at, tick, d, three[d], v[d][tick])
				}
				if s := three[d].Sights[at%2]; tick == at && s.Out && s.Panel > 0 {
					open++
				}
			}
		}
	}
	if open < 5 {
		t.Error(open)
	}
}
