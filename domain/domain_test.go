package domain

import (
	"math/rand"
	"reflect"
	"slices"
	"testing"

	"tipstaff/api"
	"tipstaff/wire"
)

func example() api.Config {
	return api.Config{
		Floors: 3, Gaps: []int{4, 4}, Cars: 2, Speed: 2, Width: 1, Dwell: 1, Trips: 1, Slots: 1, Life: 50, Full: 100,
		Rota: [][]int{{1}, {1}}, Rules: [3]api.Rule{{Mask: 7, Calls: 4}, {Mask: 7, Calls: 4}, {Mask: 7, Calls: 4}}, Keys: []int{7},
	}
}

func shared() api.Config {
	c := example()
	c.Slots, c.Rota, c.Rules[2].Mask, c.Trips, c.Retries = 3, [][]int{{1, 2, 3}, {3, 0, 1}}, 5, 2, 1
	return c
}

func frame(tag, kind, a, b int) string {
	s, _ := wire.Encode(api.Frame{Tag: tag, Event: api.Event{Kind: kind, A: a, B: b}})
	return s
}

func atPort(tick, port int, data string) api.Entry {
	return api.Entry{Tick: tick, Kind: api.AtPort, Port: port, Data: data}
}

func atCar(tick, car, what, value int) api.Entry {
	return api.Entry{Tick: tick, Kind: api.AtCar, Car: car, What: what, Value: value}
}

func fresh1(t *testing.T, c api.Config, d int) api.DomainState {
	s, e := New(c, d)
	if e != api.OK {
		t.Fatal(e)
	}
	return s
}

// bank is a domain that is run tick by tick.
type bank struct {
	t *testing.T
	c api.Config
	s api.DomainState
}

func (b *bank) step(word int, l ...api.Entry) api.View {
	b.t.Helper()
	next, v, e := Step(b.c, b.s, l, word)
	if e != api.OK || Check(b.c, next) != api.OK || next.Now != b.s.Now+1 || v.Tick != b.s.Now || v.Word != word || len(v.Sights) != b.c.Cars {
		b.t.Fatal(b.s.Now, e, v)
	}
	b.s = next
	return v
}

func codes(v api.View) []int {
	var l []int
	for _, r := range v.Replies {
		l = append(l, r.Code)
	}
	return l
}

var noState, noView = api.DomainState{}, api.View{}

func TestP35_1(t *testing.T) {
	c := example()
	s := fresh1(t, c, 3)
	if s.Domain != 3 || s.Now != 0 || s.Table.Cap != 4 || len(s.Table.Calls) != 0 || s.Keys.Last != -1 || s.Keys.Life != 50 || !slices.Equal(s.Keys.Keys, []int{7}) || !slices.Equal(s.Modes, []int{0, 0}) || len(s.Cars) != 2 || !s.Cars[1].In || s.Cars[1].Goal != -1 || s.Out != 0 || Check(c, s) != api.OK {
		t.Error(s)
	}
	for _, d := range []int{0, 4} {
		if s, e := New(c, d); !reflect.DeepEqual(s, noState) || e != api.ErrRange {
			t.Error(d, s, e)
		}
	}
	bad := c
	bad.Floors = 1
	if s, e := New(bad, 9); !reflect.DeepEqual(s, noState) || e != api.ErrRange {
		t.Error(s, e)
	}
	call := api.Call{Kind: 1, Floor: 1, At: 5}
	for i, x := range []struct {
		c      api.Config
		change func(*api.DomainState)
		e      api.Errno
	}{
		{bad, func(s *api.DomainState) { s.Table.Cap = 99 }, api.ErrRange}, {c, func(s *api.DomainState) { s.Domain = 0 }, api.ErrRange}, {c, func(s *api.DomainState) { s.Now = -1 }, api.ErrRange}, {c, func(s *api.DomainState) { s.Now = 1<<40 + 1 }, api.ErrRange}, {c, func(s *api.DomainState) { s.Modes = s.Modes[:1] }, api.ErrRange}, {c, func(s *api.DomainState) { s.Modes[1] = 4 }, api.ErrRange}, {c, func(s *api.DomainState) { s.Cars = nil; s.Table.Calls = make([]api.Call, 9) }, api.ErrRange}, {c, func(s *api.DomainState) { s.Out = 4; s.Table.Calls = make([]api.Call, 9) }, api.ErrRange}, {c, func(s *api.DomainState) { s.Out = -1 }, api.ErrRange},
		{c, func(s *api.DomainState) { s.Table.Calls = make([]api.Call, 9); s.Keys.Keys = []int{7, 7} }, api.ErrFull}, {c, func(s *api.DomainState) { s.Keys.Keys = []int{7, 7}; s.Table.Cap = 5 }, api.ErrOrder}, {c, func(s *api.DomainState) { s.Table.Cap = 5; s.Cars[0].Load = -1 }, api.ErrForm}, {c, func(s *api.DomainState) { s.Keys.Keys = nil }, api.ErrForm}, {c, func(s *api.DomainState) { s.Keys.Life = 51 }, api.ErrForm}, {c, func(s *api.DomainState) { s.Keys.Last = 9 }, api.ErrForm}, {c, func(s *api.DomainState) { s.Table.Calls = []api.Call{call}; s.Now = 5 }, api.ErrForm}, {c, func(s *api.DomainState) { s.Now = 9; s.Table.Calls = []api.Call{{Kind: 1, Floor: 3}} }, api.ErrForm}, {c, func(s *api.DomainState) { s.Now = 9; s.Table.Calls = []api.Call{{Kind: 3, Car: 3}} }, api.ErrForm},
		{c, func(s *api.DomainState) { s.Cars[1].Load = -1 }, api.ErrRange}, {c, func(s *api.DomainState) { s.Cars[0].Drive.Speed = 1; s.Cars[1].Load = -1 }, api.ErrForm}, {c, func(s *api.DomainState) { s.Now = 10; s.Keys.Last = 9; s.Table.Calls = []api.Call{call}; s.Out = 3 }, api.OK},
	} {
		s := fresh1(t, c, 3)
		x.change(&s)
		if e := Check(x.c, s); e != x.e {
			t.Error(i, e)
		}
		if x.e == api.OK {
			continue
		}
		n, v, a := Step(x.c, s, nil, 5)
		l, b := Ready(x.c, s)
		o, d := Open(x.c, s)
		if !reflect.DeepEqual(n, noState) || !reflect.DeepEqual(v, noView) || l != nil || o || a != x.e || b != x.e || d != x.e {
			t.Error(i, a, b, d)
		}
	}
}

func TestP35_2(t *testing.T) {
	c := shared() // A slot has 5 + 3 * 10 ticks: Move 5, Door 5.
	for i, x := range []struct {
		d    int
		e    api.Entry
		want bool
		err  api.Errno
	}{
		{1, atPort(0, 7, "any bytes, also very many of them"), true, api.OK}, {1, atPort(0, 8, ""), false, api.OK}, {3, atPort(1<<40, 23, ""), true, api.OK}, {1, atCar(0, 1, 2, 0), true, api.OK}, {2, atCar(34, 1, 2, 0), false, api.OK}, {2, atCar(35, 1, 2, 0), true, api.OK}, {3, atCar(5, 2, 1, 10000), true, api.OK}, {1, atCar(39, 2, 3, 0), false, api.OK},
		{0, api.Entry{Kind: 9}, false, api.ErrRange}, {4, atPort(0, 7, ""), false, api.ErrRange}, {1, api.Entry{Kind: 3, Tick: -1}, false, api.ErrKind}, {1, atPort(-1, 7, ""), false, api.ErrRange}, {1, atPort(1<<40+1, 7, ""), false, api.ErrRange}, {1, atPort(0, 24, ""), false, api.ErrRange}, {1, atPort(0, -1, ""), false, api.ErrRange}, {1, atCar(0, 0, 1, 0), false, api.ErrRange}, {1, atCar(0, 3, 1, 0), false, api.ErrRange}, {1, atCar(0, 1, 0, 0), false, api.ErrRange}, {1, atCar(0, 1, 7, 0), false, api.ErrRange}, {1, atCar(0, 1, 1, 10001), false, api.ErrRange}, {1, atCar(0, 1, 2, 1), false, api.ErrRange}, {1, atCar(-1, 1, 2, 0), false, api.ErrRange},
	} {
		if got, e := Belongs(c, x.d, x.e); got != x.want || e != x.err {
			t.Error(i, got, e)
		}
	}
	if got, e := Belongs(api.Config{}, 0, api.Entry{}); got || e != api.ErrRange {
		t.Error(got, e)
	}
}

func TestP35_3_P35_8(t *testing.T) {
	b := &bank{t: t, c: example()}
	b.s = fresh1(t, b.c, 1)
	unseen := []api.Sight{{Floor: -1}, {Floor: -1}}
	for range 5 {
		if v := b.step(-1); !slices.Equal(v.Sights, unseen) || v.Replies != nil || v.Up+v.Down != 0 {
			t.Error(v)
		}
	}
	v := b.step(-1, atPort(5, 0, frame(1, api.EvHall, 2, 1)))
	if !slices.Equal(v.Replies, []api.Reply{{Port: 0, Code: api.Accepted}}) || v.Up != 4 || v.Down != 0 || b.s.Cars[0].Drive.Pos != 1 || b.s.Cars[0].Drive.Goal != 8 || b.s.Cars[1].Drive.Pos != 0 {
		t.Error(v, b.s)
	}
	v = b.step(-1, atPort(6, 0, frame(1, api.EvHall, 2, 1)), atPort(6, 1, frame(1, api.EvHall, 3, 1)), atPort(6, 2, frame(1, api.EvCar, 1, 1)), atPort(6, 7, frame(1, api.EvKey, 7, 0)), atPort(6, 0, frame(2, api.EvHall, 2, 1)), atPort(6, 0, frame(1, api.EvMode, 2, 2)))
	if !slices.Equal(codes(v), []int{api.Known, api.Malformed, api.Accepted, api.Forbidden, api.Mistagged, api.Accepted}) || !slices.Equal(b.s.Modes, []int{0, 2}) {
		t.Error(v)
	}
	for tick := 7; tick <= 10; tick++ {
		v = b.step(-1)
	}
	if v.Up != 0 || v.Sights[0] != (api.Sight{Floor: 2, Panel: 1}) || v.Sights[1] != (api.Sight{}) || len(b.s.Table.Calls) != 1 {
		t.Error(v, b.s.Table)
	}
	for tick := 11; tick <= 20; tick++ {
		b.step(-1)
	}
	if v = b.step(2); v.Sights[0] != (api.Sight{Floor: -1}) || v.Sights[1] != (api.Sight{Floor: -1, Out: true}) || len(b.s.Table.Calls) != 0 || b.s.Out != 2 || b.s.Cars[1].In || !b.s.Cars[0].In {
		t.Error(v, b.s)
	}
	for i, x := range []struct {
		l    []api.Entry
		word int
		now  int
		e    api.Errno
	}{
		{nil, 0, 0, api.ErrRange}, {nil, -2, 0, api.ErrRange}, {nil, -1, 21, api.ErrRange}, {nil, 4, 21, api.ErrRange}, {nil, 3, 21, api.OK}, {nil, 1, 22, api.ErrRange}, {nil, 9, 1 << 40, api.ErrFull}, {[]api.Entry{atPort(0, 8, "")}, -1, 0, api.ErrForm}, {[]api.Entry{atPort(1, 8, "")}, -1, 0, api.ErrOrder}, {[]api.Entry{atPort(0, 0, ""), atPort(1, 24, ""), {Kind: 9}}, -1, 0, api.ErrRange}, {[]api.Entry{atPort(0, 0, ""), {Kind: 9}}, -1, 0, api.ErrKind}, {[]api.Entry{atPort(0, 8, ""), {Kind: 9}}, -1, 0, api.ErrForm},
	} {
		s := fresh1(t, b.c, 1)
		s.Now = x.now
		n, v, e := Step(b.c, s, x.l, x.word)
		if e != x.e || e != api.OK && (!reflect.DeepEqual(n, noState) || !reflect.DeepEqual(v, noView)) {
			t.Error(i, e)
		}
	}
	odd := fresh1(t, b.c, 1)
	odd.Now = 13 // The car shall go home, and is on its way already.
	odd.Cars[1].Drive = api.Drive{Goal: 8, Part: api.Running}
	if n, _, e := Step(b.c, odd, nil, -1); !reflect.DeepEqual(n, noState) || e != api.ErrState {
		t.Error(e)
	}
}

func TestP35_3Forbidden(t *testing.T) {
	c := shared()
	b := &bank{t: t, c: c}
	b.s = fresh1(t, c, 3)
	call := func(car, floor int) string { return frame(3, api.EvCar, car, floor) }
	v := b.step(-1, atPort(0, 16, frame(3, api.EvHall, 1, 1)), atPort(0, 16, frame(3, api.EvHall, 2, 2)), atPort(0, 16, call(2, 0)), atPort(0, 16, frame(3, api.EvKey, 8, 0)), atPort(0, 16, frame(3, api.EvKey, 7, 0)))
	if !slices.Equal(codes(v), []int{api.Forbidden, api.Accepted, api.Forbidden, api.Forbidden, api.Accepted}) || v.Down != 4 || b.s.Keys.Last != 0 {
		t.Error(v, b.s.Keys)
	}
	for range 4 {
		b.step(-1)
	}
	v = b.step(-1, atCar(5, 2, api.Obstruct, 0), atCar(5, 2, api.MotorFail, 0), atPort(5, 16, call(2, 0)), atPort(5, 16, call(1, 0)), atPort(5, 16, call(2, 1)))
	if !slices.Equal(codes(v), []int{api.Accepted, api.Forbidden, api.Forbidden}) || !b.s.Cars[1].Faulted || v.Sights[1] != (api.Sight{Floor: -1, Out: true}) || v.Sights[0] != (api.Sight{Floor: -1}) {
		t.Error(v, b.s.Cars)
	}
	if v = b.step(-1, atPort(6, 16, call(2, 2))); !slices.Equal(codes(v), []int{api.Forbidden}) {
		t.Error(v)
	}
	full := fresh1(t, example(), 1)
	full.Now, full.Table.Calls = 5, []api.Call{{Kind: 1}, {Kind: 2}, {Kind: 1, Floor: 1}, {Kind: 2, Floor: 1}}
	_, v, e := Step(example(), full, []api.Entry{atPort(5, 0, frame(1, api.EvHall, 2, 1)), atPort(5, 0, frame(1, api.EvHall, 0, 1))}, -1)
	if !slices.Equal(codes(v), []int{api.Rejected, api.Known}) || e != api.OK {
		t.Error(v, e)
	}
}

func TestP35_4(t *testing.T) {
	c := shared()
	for i, x := range []struct {
		d, now, out int
		want        []int
	}{{1, 0, 0, []int{1}}, {3, 0, 0, []int{2}}, {3, 0, 2, nil}, {2, 0, 0, nil}, {2, 35, 0, []int{1}}, {2, 35, 1, nil}, {1, 80, 1, []int{2}}, {3, 80, 1, nil}} {
		s := fresh1(t, c, x.d)
		s.Now, s.Out = x.now, x.out
		if l, e := Ready(c, s); !slices.Equal(l, x.want) || e != api.OK {
			t.Error(i, l, e)
		}
		if o, e := Open(c, s); o != (x.d != 3) || e != api.OK {
			t.Error(i, o, e)
		}
	}
	s := fresh1(t, c, 3)
	s.Keys.Last = 10
	for now, want := range map[int]bool{11: true, 59: true, 60: false} {
		s.Now = now
		if o, e := Open(c, s); o != want || e != api.OK {
			t.Error(now, o, e)
		}
	}
}

// random returns entries that belong to a domain in a tick.
func random(r *rand.Rand, c api.Config, d, tick int) []api.Entry {
	var l []api.Entry
	for r.Intn(3) == 0 {
		e := atPort(tick, 8*(d-1)+r.Intn(8), frame(1+r.Intn(20)/19*r.Intn(3), 1+r.Intn(4), r.Intn(4), r.Intn(4)))
		switch r.Intn(4) {
		case 0:
			e.Data = frame(d, api.EvHall, r.Intn(3), 1+r.Intn(2))
		case 1:
			e.Data = frame(d, api.EvCar, 1+r.Intn(2), r.Intn(3))
		case 2:
			e = atCar(tick, 1+r.Intn(c.Cars), 1+r.Intn(3)*r.Intn(3), 0)
		}
		if r.Intn(40) == 0 {
			e.Data = frame(d, api.EvKey, 7, 0)
		}
		if mine, _ := Belongs(c, d, e); mine {
			l = append(l, e)
		}
	}
	return l
}

func TestP35_5_P35_6_P35_7_P35_9(t *testing.T) {
	c := shared()
	r := rand.New(rand.NewSource(35))
	for d := 1; d <= 3; d++ {
		b := &bank{t: t, c: c}
		b.s = fresh1(t, c, d)
		for tick := range 35 * 12 {
			word := -1
			if tick > 0 && tick%35 == 0 {
				word = r.Intn(4)
			}
			l := random(r, c, d, tick)
			before, again := b.s, copied(b.s)
			v := b.step(word, l...)
			if !reflect.DeepEqual(before, again) {
				t.Fatal("changed")
			}
			at := 0
			accepted := slices.DeleteFunc(slices.Clone(l), func(e api.Entry) bool {
				if e.Kind != api.AtPort {
					return false
				}
				at++
				return v.Replies[at-1].Code != api.Accepted
			})
			if s, w, e := Step(c, before, accepted, word); e != api.OK || !reflect.DeepEqual(s, b.s) || !slices.Equal(w.Sights, v.Sights) {
				t.Fatal(tick, e)
			}
			up, down := uint64(0), uint64(0)
			for _, x := range before.Table.Calls {
				up |= uint64(x.Kind&1) << x.Floor &^ (uint64(x.Kind>>1) << x.Floor)
				down |= uint64(x.Kind>>1) << x.Floor &^ (uint64(x.Kind&1) << x.Floor)
			}
			opened := uint64(0)
			for i, s := range v.Sights {
				was := before.Cars[i].Cycle.Door.Panel
				if s.Panel == 1 && was == 0 {
					opened |= 1 << s.Floor
					if d == 3 && (b.s.Keys.Last < 0 || tick-b.s.Keys.Last >= c.Life) {
						t.Fatal(tick, "opened without a key")
					}
				}
			}
			if (up&^v.Up|down&^v.Down)&^opened != 0 {
				t.Fatal(tick, up, down, v, opened)
			}
			if tick%35 == 0 && slices.ContainsFunc(b.s.Table.Calls, func(x api.Call) bool { return x.Kind == api.CarCall }) {
				t.Fatal(tick, b.s.Table)
			}
		}
	}
}

func TestP35_3Cars(t *testing.T) {
	c := example()
	c.Retries, c.Dwell = 1, 2
	b := &bank{t: t, c: c}
	b.s = fresh1(t, c, 1)
	var v api.View
	until := func(tick int, l ...api.Entry) {
		for b.s.Now < tick {
			b.step(-1)
		}
		v = b.step(-1, l...)
	}
	// Both cars choose other calls, whatever their kind; a car that has failed does not keep the next one from choosing.
	until(0, atPort(0, 0, frame(1, api.EvHall, 2, 2)), atPort(0, 0, frame(1, api.EvHall, 1, 2)))
	until(5)
	if b.s.Cars[0].Goal != 2 || b.s.Cars[1].Goal != 1 {
		t.Error(b.s.Cars)
	}
	// The door of car 2 is obstructed when it closes: it opens once more.
	until(13, atCar(13, 2, api.Obstruct, 0))
	if v.Sights[0].Panel != 0 || v.Sights[1].Panel != 1 || len(b.s.Table.Calls) != 0 {
		t.Error(v)
	}
	b.s = fresh1(t, c, 1)
	until(5, atPort(5, 0, frame(1, api.EvHall, 2, 1)), atCar(5, 1, api.DoorFail, 0), atPort(5, 0, frame(1, api.EvMode, 2, 1)), atPort(5, 0, frame(1, api.EvCar, 2, 1)), atPort(5, 0, frame(1, api.EvCar, 1, 1)))
	if b.s.Cars[0].Goal != -1 || b.s.Cars[1].Goal != 1 || v.Up != 4 {
		t.Error(b.s.Cars, v)
	}
	until(10)
	if v.Up != 4 || len(b.s.Table.Calls) != 2 || b.s.Table.Calls[1].Car != 1 {
		t.Error(v, b.s.Table)
	}
}

func TestP35Bounds(t *testing.T) {
	c := example()
	for _, p := range []int{0, 23} {
		if _, e := Belongs(c, 1, atPort(0, p, "")); e != api.OK {
			t.Error(p, e)
		}
	}
	s := fresh1(t, c, 1)
	s.Now, s.Keys.Last = 9, 9
	if e := Check(c, s); e != api.ErrForm {
		t.Error(e)
	}
	s.Keys.Last = 8
	if e := Check(c, s); e != api.OK {
		t.Error(e)
	}
}
