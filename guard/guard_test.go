package guard

import (
	"math/rand"
	"reflect"
	"slices"
	"strings"
	"testing"

	"tipstaff/api"
	"tipstaff/config"
	"tipstaff/group"
	"tipstaff/wire"
)

func example() api.Config {
	return api.Config{
		Floors: 3, Gaps: []int{4, 4}, Cars: 2, Speed: 2, Width: 1, Dwell: 1, Trips: 1, Slots: 2, Life: 50, Full: 100,
		Rota: [][]int{{1, 2}, {0, 0}}, Rules: [3]api.Rule{{Mask: 7, Calls: 4}, {Mask: 7, Calls: 4}, {Mask: 7, Calls: 4}}, Keys: []int{7},
	}
}

func shared() api.Config {
	c := example()
	c.Floors, c.Gaps, c.Cars, c.Brake, c.Tol, c.Width, c.Dwell, c.Retries, c.Trips, c.Slots, c.Empty = 4, []int{4, 7, 3}, 3, 1, 1, 2, 2, 1, 3, 4, 10
	c.Rota = [][]int{{1, 2, 3, 0}, {1, 3, 3, 1}, {2, 1, 3, 1}}
	c.Rules = [3]api.Rule{{Mask: 15, Home: 0, Calls: 6}, {Mask: 7, Home: 2, Calls: 3}, {Mask: 13, Home: 3, Calls: 4}}
	return c
}

func frame(tag, kind, a, b int) string {
	s, _ := wire.Encode(api.Frame{Tag: tag, Event: api.Event{Kind: kind, A: a, B: b}})
	return s
}

func atPort(tick, port int, data string) api.Entry {
	return api.Entry{Tick: tick, Kind: api.AtPort, Port: port, Data: data}
}

// behind is the snapshot behind a tick of the examples.
func behind(t *testing.T, tick int) api.Snapshot {
	g, e := group.New(example())
	for n := 0; n <= tick && e == api.OK; n++ {
		var l []api.Entry
		if n == 0 {
			l = []api.Entry{atPort(0, 0, frame(1, 1, 2, 1)), atPort(0, 8, frame(2, 1, 1, 2))}
		}
		_, e = g.Step(l)
	}
	if e != api.OK {
		t.Fatal(e)
	}
	return g.Snapshot()
}

func text(l []api.Violation) string {
	var out []string
	for _, v := range l {
		s, e := Text(v)
		if e != api.OK {
			s = e.Error()
		}
		out = append(out, s)
	}
	return strings.Join(out, "; ")
}

func TestP40_1(t *testing.T) {
	a := behind(t, 10)
	for i, x := range []struct {
		change func(*api.Snapshot)
		e      api.Errno
	}{
		{func(s *api.Snapshot) {}, api.OK}, {func(s *api.Snapshot) { s.Config.Keys = []int{7, 7}; s.Tick = -2 }, api.ErrOrder}, {func(s *api.Snapshot) { s.Tick = -2; s.Bodies = nil }, api.ErrRange}, {func(s *api.Snapshot) { s.Tick = 1<<40 + 1 }, api.ErrRange}, {func(s *api.Snapshot) { s.Tick = 1 << 40 }, api.OK}, {func(s *api.Snapshot) { s.Bodies = s.Bodies[:1]; s.Tables[0].Cap = 99 }, api.ErrForm}, {func(s *api.Snapshot) { s.Tables = s.Tables[:2]; s.Bodies[0].Pos = 99 }, api.ErrForm},
		{func(s *api.Snapshot) { s.Bodies[1].Domain = 4 }, api.ErrRange}, {func(s *api.Snapshot) { s.Bodies[1].Domain = -1 }, api.ErrRange}, {func(s *api.Snapshot) { s.Bodies[1].Pos = 9 }, api.ErrRange}, {func(s *api.Snapshot) { s.Bodies[1].Pos = -1 }, api.ErrRange}, {func(s *api.Snapshot) { s.Bodies[1].Speed = 3 }, api.ErrRange}, {func(s *api.Snapshot) { s.Bodies[1].Speed = -1 }, api.ErrRange}, {func(s *api.Snapshot) { s.Bodies[1].Panel = 2 }, api.ErrRange}, {func(s *api.Snapshot) { s.Bodies[1].Panel = -1 }, api.ErrRange}, {func(s *api.Snapshot) { s.Bodies[1].Load = 10001 }, api.ErrRange}, {func(s *api.Snapshot) { s.Bodies[1].Load = -1 }, api.ErrRange}, {func(s *api.Snapshot) { s.Bodies[1].Goal = 3 }, api.ErrRange}, {func(s *api.Snapshot) { s.Bodies[1].Goal = -2; s.Tables[0].Cap = 99 }, api.ErrRange},
		{func(s *api.Snapshot) { s.Tables[2].Cap = 99 }, api.ErrRange}, {func(s *api.Snapshot) { s.Tables[0].Calls = make([]api.Call, 5); s.Tables[2].Cap = 99 }, api.ErrFull},
	} {
		s := a
		s.Bodies, s.Tables = slices.Clone(a.Bodies), slices.Clone(a.Tables)
		x.change(&s)
		if e := Check(s); e != x.e {
			t.Error(i, e)
		}
		if x.e == api.OK {
			continue
		}
		l, b := Cars(s)
		m, c := Calls(s)
		n, d := All(s)
		o, e := Handover(a, s)
		p, f := Handover(s, api.Snapshot{})
		q, g := Shown(s)
		r, h := Sights(s, 0)
		for _, e := range []api.Errno{b, c, d, e, f, g, h} {
			if e != x.e {
				t.Error(i, b, c, d, e, f, g, h)
			}
		}
		if l != nil || m != nil || n != nil || o != nil || p != nil || q != nil || r != nil {
			t.Error(i, "not zero")
		}
	}
}

func TestP40_2_P40_7_P40_8(t *testing.T) {
	a := behind(t, 10)
	if l, e := All(behind(t, -1)); len(l) != 0 || e != api.OK {
		t.Error(text(l), e)
	}
	car := func(at int, kind int) api.Call { return api.Call{Kind: kind, Floor: 1, Car: at, At: 5} }
	for i, x := range []struct {
		change func(*api.Snapshot)
		want   string
	}{
		{func(s *api.Snapshot) {}, ""}, {func(s *api.Snapshot) { s.Bodies[0].Motor = true }, "motor car 1 floor 2"}, {func(s *api.Snapshot) { s.Bodies[0].Pos = 6 }, "panel car 1"}, {func(s *api.Snapshot) { s.Bodies[0].Domain = 2 }, "slot car 1 floor 2"}, {func(s *api.Snapshot) { s.Bodies[1].Goal = 1 }, "goal car 2 floor 1"}, {func(s *api.Snapshot) { s.Tables[1].Calls = append(s.Tables[1].Calls, car(1, api.CarCall)) }, "call car 1 domain 2 floor 1"},
		{func(s *api.Snapshot) { s.Bodies[0].Speed = 1 }, "motor car 1 floor 2; panel car 1 floor 2"}, {func(s *api.Snapshot) { s.Bodies[0].Panel, s.Bodies[0].Speed, s.Bodies[0].Motor = 0, 2, true }, ""}, {func(s *api.Snapshot) { s.Bodies[0].Panel, s.Bodies[0].Motor, s.Bodies[0].Faulted = 0, true, true }, "motor car 1 floor 2; goal car 1 domain 1 floor 2"}, {func(s *api.Snapshot) { s.Bodies[0].In = false; s.Bodies[0].Goal = -1 }, ""}, {func(s *api.Snapshot) { s.Bodies[0].In = false }, "goal car 1 domain 1 floor 2"}, {func(s *api.Snapshot) { s.Bodies[1].Motor = true }, "motor car 2 floor 0"}, {func(s *api.Snapshot) { s.Bodies[1].Panel = 1 }, "floor car 2 floor 0"},
		{func(s *api.Snapshot) { s.Config.Rules[0].Mask = 3 }, "floor car 1 domain 1 floor 2; goal car 1 domain 1 floor 2"}, {func(s *api.Snapshot) { s.Bodies[0].Domain = 3; s.Bodies[0].Began = true }, "slot car 1 floor 2; key car 1 floor 2"}, {func(s *api.Snapshot) { s.Bodies[0].Domain = 3; s.Bodies[0].Began = true; s.Bodies[0].Key = true }, "slot car 1 floor 2"}, {func(s *api.Snapshot) { s.Bodies[0].Domain = 0; s.Bodies[0].Pos = 6 }, "slot car 1; panel car 1; floor car 1; goal car 1 floor 2"}, {func(s *api.Snapshot) { s.Tick = -1; s.Tables[1].Calls = nil }, "slot car 1 floor 2"},
		{func(s *api.Snapshot) { s.Tables[0].Cap = 5; s.Tables[2].Cap = 3 }, "table domain 1; table domain 3"}, {func(s *api.Snapshot) { s.Tables[0].Calls = []api.Call{car(1, api.CarCall)} }, ""}, {func(s *api.Snapshot) { s.Tables[0].Calls = []api.Call{car(2, api.CarCall), car(3, api.CarCall)} }, "call car 2 domain 1 floor 1; call car 3 domain 1 floor 1"}, {func(s *api.Snapshot) {
			s.Tables[0].Calls = []api.Call{{Kind: 1, Floor: 2, At: 11}, {Kind: 2, Floor: 63, At: 12}}
		}, "call domain 1 floor 2; call domain 1 floor 63"}, {func(s *api.Snapshot) { s.Tables[2].Calls, s.Tables[2].Cap = []api.Call{{Kind: 1, Floor: 3}}, 2 }, "table domain 3; call domain 3 floor 3"}, {func(s *api.Snapshot) {
			s.Tables[0].Calls = []api.Call{car(1, api.CarCall)}
			s.Bodies[0].In, s.Bodies[0].Goal = false, -1
		}, "call car 1 domain 1 floor 1"},
	} {
		s := a
		s.Bodies, s.Tables = slices.Clone(a.Bodies), slices.Clone(a.Tables)
		x.change(&s)
		all, e := All(s)
		cars, f := Cars(s)
		calls, g := Calls(s)
		if text(all) != x.want || e+f+g != api.OK || !slices.Equal(slices.Concat(cars, calls), all) {
			t.Error(i, text(all), e, f, g)
		}
	}
}

func TestP40_3(t *testing.T) {
	a, b := behind(t, 20), behind(t, 21)
	if l, e := Handover(a, b); len(l) != 0 || e != api.OK {
		t.Error(text(l), e)
	}
	for i, x := range []struct {
		change func(a, b *api.Snapshot)
		want   string
		e      api.Errno
	}{
		{func(a, b *api.Snapshot) { a.Bodies[0].Panel = 1; a.Bodies[1].Speed = 1; a.Bodies[1].Pos = 3 }, "end car 1 floor 0; end car 2", api.OK}, {func(a, b *api.Snapshot) { a.Bodies[0].Load = 1; a.Bodies[1].Load = 1; b.Bodies[1].In = false }, "load car 1", api.OK}, {func(a, b *api.Snapshot) { a.Bodies[0].Load = 1; a.Bodies[0].Panel = 1 }, "end car 1 floor 0; load car 1", api.OK}, {func(a, b *api.Snapshot) {
			b.Tables[0].Calls = []api.Call{{Kind: 3, Floor: 1, Car: 1, At: 20}, {Kind: 3, Floor: 2, Car: 1, At: 21}}
			b.Tables[2].Calls = []api.Call{{Kind: 3, Floor: 0, Car: 2, At: 0}}
		}, "call car 1 domain 1 floor 1; call car 2 domain 3 floor 0", api.OK},
		{func(a, b *api.Snapshot) { b.Config.Life = 51; b.Tick = 99 }, "", api.ErrForm}, {func(a, b *api.Snapshot) { b.Config.Rota = [][]int{{1, 2}, {0, 1}} }, "", api.ErrForm}, {func(a, b *api.Snapshot) { b.Config.Gaps = []int{4, 5} }, "", api.ErrForm}, {func(a, b *api.Snapshot) { b.Config.Keys = nil }, "", api.ErrForm}, {func(a, b *api.Snapshot) { b.Config.Rules[2].Home = 1 }, "", api.ErrForm}, {func(a, b *api.Snapshot) { b.Tick = 22 }, "", api.ErrOrder}, {func(a, b *api.Snapshot) { a.Tick, b.Tick = 21, 22 }, "", api.ErrOrder}, {func(a, b *api.Snapshot) { a.Tick, b.Tick = -1, 0 }, "", api.ErrOrder}, {func(a, b *api.Snapshot) { *b = *a }, "", api.ErrOrder}, {func(a, b *api.Snapshot) { a.Tick, b.Tick = 41, 42 }, "", api.OK},
	} {
		a, b := behind(t, 20), behind(t, 21)
		x.change(&a, &b)
		if l, e := Handover(a, b); text(l) != x.want || e != x.e || e != api.OK && l != nil {
			t.Error(i, text(l), e)
		}
	}
}

func TestP40_4_P40_5(t *testing.T) {
	a := behind(t, 10)
	if l, e := Shown(a); !slices.Equal(l, []api.Shown{{Domain: 1, Service: true, At: 8, Panel: 1}, {Service: true}}) || e != api.OK {
		t.Error(l, e)
	}
	if l, e := Shown(behind(t, 4)); !l[0].Homing || e != api.OK {
		t.Error(l, e)
	}
	if l, e := Shown(behind(t, -1)); !l[0].Homing || l[0].Domain != 0 || e != api.OK {
		t.Error(l, e)
	}
	if l, e := Sights(a, 1); !slices.Equal(l, []api.Sight{{Floor: 2, Panel: 1}, {Floor: -1}}) || e != api.OK {
		t.Error(l, e)
	}
	if l, e := Sights(a, 2); !slices.Equal(l, []api.Sight{{Floor: -1}, {Floor: -1}}) || e != api.OK {
		t.Error(l, e)
	}
	for _, d := range []int{0, 4} {
		if l, e := Sights(a, d); l != nil || e != api.ErrRange {
			t.Error(l, e)
		}
	}
	for i, name := range []string{"slot", "motor", "panel", "floor", "key", "goal", "call", "table", "end", "load"} {
		if s, e := Text(api.Violation{Kind: i + 1, Floor: -1}); s != name || e != api.OK {
			t.Error(s, e)
		}
	}
	if s, e := Text(api.Violation{Kind: 7, Car: 8, Domain: 3, Floor: 63}); s != "call car 8 domain 3 floor 63" || e != api.OK {
		t.Error(s, e)
	}
	if s, _ := Text(api.Violation{Kind: 1}); s != "slot floor 0" {
		t.Error(s)
	}
	for _, v := range []api.Violation{{}, {Kind: 11}, {Kind: 1, Car: 9}, {Kind: 1, Car: -1}, {Kind: 1, Domain: 4}, {Kind: 1, Domain: -1}, {Kind: 1, Floor: 64}, {Kind: 1, Floor: -2}} {
		if s, e := Text(v); s != "" || e != api.ErrRange {
			t.Error(v, s, e)
		}
	}
}

func TestP40_6_P40_9(t *testing.T) {
	c := shared()
	times, _ := config.Times(c)
	r := rand.New(rand.NewSource(40))
	for range 4 {
		g, _ := group.New(c)
		before := g.Snapshot()
		for tick := range times.Slot * 9 {
			var l []api.Entry
			for r.Intn(3) == 0 {
				d := 1 + r.Intn(3)
				e := atPort(tick, 8*(d-1), frame(d, 1+r.Intn(4), r.Intn(5), r.Intn(4)))
				switch r.Intn(5) {
				case 0:
					e = api.Entry{Tick: tick, Kind: api.AtCar, Car: 1 + r.Intn(3), What: 1 + r.Intn(8)*r.Intn(5)/6%6}
				case 1:
					e.Data = frame(d, api.EvKey, 7, 0)
				}
				l = append(l, e)
			}
			views, e := g.Step(l)
			if e != api.OK {
				t.Fatal(tick, e)
			}
			now := g.Snapshot()
			if v, e := All(now); len(v) != 0 || e != api.OK {
				t.Fatal(tick, text(v), e)
			}
			if v, e := Handover(before, now); len(v) != 0 || (e == api.OK) != (tick > 0 && tick%times.Slot == 0) {
				t.Fatal(tick, text(v), e)
			}
			for d := 1; d <= 3; d++ {
				if s, e := Sights(now, d); e != api.OK || !reflect.DeepEqual(s, views[d-1].Sights) {
					t.Fatal(tick, d, s, views[d-1].Sights)
				}
			}
			before = now
		}
	}
}

func TestP40Bounds(t *testing.T) {
	a := behind(t, 0)
	if l, e := Shown(a); !l[0].Homing || e != api.OK {
		t.Error(l, e)
	}
	a.Tick = 5
	if l, e := Shown(a); l[0].Homing || e != api.OK {
		t.Error(l, e)
	}
	x, y := behind(t, 0), behind(t, 1)
	if l, e := Handover(x, y); l != nil || e != api.ErrOrder {
		t.Error(l, e)
	}
}
