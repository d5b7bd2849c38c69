package product

import (
	"math/rand"
	"reflect"
	"slices"
	"testing"

	"tipstaff/api"
	"tipstaff/group"
	"tipstaff/script"
	"tipstaff/wire"
)

// example is the configuration of chapter 27: a slot has 51 ticks.
func example() api.Config {
	return api.Config{
		Floors: 3, Gaps: []int{3, 3}, Cars: 1, Speed: 2, Brake: 1, Tol: 0, Width: 2, Dwell: 1, Retries: 1, Empty: 5, Full: 50, Trips: 2, Slots: 3, Life: 9,
		Rota: [][]int{{1, 2, 3}}, Rules: [3]api.Rule{{Mask: 7, Home: 0, Calls: 4}, {Mask: 3, Home: 1, Calls: 4}, {Mask: 4, Home: 2, Calls: 4}}, Keys: []int{7},
	}
}

func shared(r *rand.Rand) api.Config {
	c := example()
	c.Floors, c.Gaps, c.Cars, c.Tol, c.Slots, c.Life = 4, []int{1 + r.Intn(5), 1 + r.Intn(9), 2}, 3, r.Intn(3), 4, 60
	c.Speed, c.Brake, c.Width, c.Dwell, c.Retries, c.Trips = 1+r.Intn(4), r.Intn(3), 1+r.Intn(3), 1+r.Intn(3), r.Intn(3), 1+r.Intn(4)
	c.Rota = [][]int{{1, 2, 3, 0}, {1, 3, 3, 1}, {2, 1, 3, 1}}
	c.Rules = [3]api.Rule{{Mask: 15, Home: 0, Calls: 6}, {Mask: 7, Home: 2, Calls: 3}, {Mask: 13, Home: 3, Calls: 4}}
	return c
}

func frame(tag, kind, a, b int) string {
	s, _ := wire.Encode(api.Frame{Tag: tag, Event: api.Event{Kind: kind, A: a, B: b}})
	return s
}

func atPort(tick, port int, data string) api.Entry {
	return api.Entry{Tick: tick, Kind: api.AtPort, Port: port, Data: data}
}

func atCar(tick, car, what, value int) api.Entry {
	return api.Entry{Tick: tick, Kind: api.AtCar, Car: car, What: what, Value: value}
}

func small() api.Script {
	return api.Script{Length: 60, Entries: []api.Entry{atPort(0, 0, frame(1, 1, 1, 1)), atCar(1, 1, api.Load, 70), atCar(51, 1, api.Obstruct, 0)}}
}

func random(r *rand.Rand, c api.Config, length int) api.Script {
	s := api.Script{Length: length}
	for tick := range length {
		for r.Intn(3) == 0 && len(s.Entries) < api.MaxEntries {
			d := 1 + r.Intn(3)
			e := atPort(tick, 8*(d-1)+r.Intn(8), frame(d, api.EvHall, r.Intn(c.Floors), 1+r.Intn(2)))
			switch r.Intn(12) {
			case 0, 1:
				e.Data = frame(d, api.EvCar, 1+r.Intn(c.Cars), r.Intn(c.Floors))
			case 2:
				e.Data = frame(d, api.EvKey, 7+r.Intn(2), 0)
			case 3:
				e.Data = frame(d, api.EvMode, 1+r.Intn(c.Cars), r.Intn(4)*r.Intn(2))
			case 4:
				e.Data = frame(1+r.Intn(3), 1+r.Intn(4), r.Intn(5), r.Intn(4))
			case 5, 6:
				e = atCar(tick, 1+r.Intn(c.Cars), api.Obstruct, 0)
			case 7:
				e = atCar(tick, 1+r.Intn(c.Cars), api.Load, r.Intn(6)+r.Intn(12)/11*r.Intn(60))
			case 8:
				if r.Intn(12) == 0 {
					e = atCar(tick, 1+r.Intn(c.Cars), 3+r.Intn(4), 0)
				}
			}
			s.Entries = append(s.Entries, e)
		}
	}
	return s
}

func same2(a, b api.Script) bool { return a.Length == b.Length && slices.Equal(a.Entries, b.Entries) }

func TestP39_1(t *testing.T) {
	c := example()
	bad := c
	bad.Keys = []int{7, 7}
	for i, x := range []struct {
		c api.Config
		s api.Script
		e api.Errno
	}{
		{c, small(), api.OK}, {c, api.Script{Length: 5000}, api.OK}, {bad, api.Script{Length: -1}, api.ErrOrder}, {c, api.Script{Length: -1}, api.ErrRange}, {c, api.Script{Length: 5001}, api.ErrRange}, {c, api.Script{Length: 5001, Entries: []api.Entry{{}}}, api.ErrKind}, {c, api.Script{Length: 9, Entries: []api.Entry{atCar(1, 2, 2, 0)}}, api.ErrRange}, {c, api.Script{Length: 9, Entries: []api.Entry{atPort(5, 0, ""), atPort(4, 0, "")}}, api.ErrOrder},
	} {
		if e := Check(x.c, x.s); e != x.e {
			t.Error(i, e)
		}
		if x.e == api.OK {
			continue
		}
		p, a := Split(x.c, x.s)
		v, b := Views(x.c, x.s)
		l, d := Last(x.c, x.s)
		o, f := One(x.c, 9, x.s, nil)
		if !reflect.DeepEqual(p, api.Parts{}) || v != nil || l != nil || o != nil || a != x.e || b != x.e || d != x.e || f != x.e {
			t.Error(i, a, b, d, f)
		}
	}
	s := small()
	p, e := Split(c, s)
	if e != api.OK || len(p.Own) != 3 || !same2(p.Own[0], api.Script{Length: 60, Entries: s.Entries[:2]}) || !same2(p.Own[1], api.Script{Length: 60, Entries: s.Entries[2:]}) || !same2(p.Own[2], api.Script{Length: 60}) || !same2(p.Rest, api.Script{Length: 60}) || !slices.Equal(p.Words, []int{1}) {
		t.Error(p, e)
	}
	for length, want := range map[int]int{0: 0, 1: 0, 51: 0, 52: 1, 102: 1, 103: 2} {
		if p, e := Split(c, api.Script{Length: length}); len(p.Words) != want || e != api.OK {
			t.Error(length, p.Words, e)
		}
	}
	none := shared(rand.New(rand.NewSource(1)))
	none.Rota[0] = []int{0, 0, 0, 0}
	if p, _ := Split(none, small()); len(p.Rest.Entries) != 2 || p.Rest.Length != 60 {
		t.Error(p)
	}
}

func TestP39_2_P39_7(t *testing.T) {
	c := example()
	p, _ := Split(c, small())
	if s, e := Merge(c, p); !same2(s, small()) || e != api.OK {
		t.Error(s, e)
	}
	bad := c
	bad.Keys = []int{7, 7}
	long := func(n, port int) api.Script {
		return api.Script{Length: 60, Entries: slices.Repeat([]api.Entry{atPort(1, port, "")}, n)}
	}
	for i, x := range []struct {
		c      api.Config
		change func(*api.Parts)
		e      api.Errno
	}{
		{bad, func(p *api.Parts) { p.Own = nil }, api.ErrOrder}, {c, func(p *api.Parts) { p.Own = p.Own[:2]; p.Rest.Length = -1 }, api.ErrForm}, {c, func(p *api.Parts) { p.Own[1].Length = -1; p.Rest.Entries = []api.Entry{{}} }, api.ErrRange}, {c, func(p *api.Parts) { p.Own[2].Length = 61; p.Rest.Entries = []api.Entry{{}} }, api.ErrKind}, {c, func(p *api.Parts) { p.Own[2].Length = 61 }, api.ErrForm}, {c, func(p *api.Parts) { p.Own[0], p.Own[1] = p.Own[1], p.Own[0] }, api.ErrForm}, {c, func(p *api.Parts) { p.Rest = p.Own[0] }, api.ErrForm}, {c, func(p *api.Parts) { p.Own[0], p.Own[1] = long(1001, 0), long(1000, 9) }, api.ErrRange}, {c, func(p *api.Parts) { p.Own[0], p.Own[1] = long(1000, 0), long(1000, 9) }, api.OK}, {c, func(p *api.Parts) { p.Words = []int{9, 9, 9} }, api.OK},
	} {
		p, _ := Split(c, small())
		x.change(&p)
		if s, e := Merge(x.c, p); e != x.e || e != api.OK && !reflect.DeepEqual(s, api.Script{}) {
			t.Error(i, e)
		}
	}
	r := rand.New(rand.NewSource(7))
	for range 5 {
		c := shared(r)
		s := random(r, c, 500)
		p, _ := Split(c, s)
		m, e := Merge(c, p)
		q, _ := Split(c, m)
		if e != api.OK || len(m.Entries) != len(s.Entries) || !reflect.DeepEqual(p, q) {
			t.Fatal(e)
		}
		order := func(e api.Entry) int {
			d, _ := owner(c, e)
			return 10*e.Tick + (d+3)%4
		}
		if !slices.IsSortedFunc(m.Entries, func(a, b api.Entry) int { return order(a) - order(b) }) {
			t.Error("order")
		}
		a, _ := Views(c, s)
		if b, _ := Views(c, m); !reflect.DeepEqual(a, b) {
			t.Error("views")
		}
	}
}

func TestP39_3_P39_4_P39_6(t *testing.T) {
	c := example()
	p, _ := Split(c, small())
	v, e := Views(c, small())
	if e != api.OK || len(v) != 3 || len(v[2]) != 60 {
		t.Fatal(e)
	}
	if x := v[0][0]; x.Tick != 0 || !slices.Equal(x.Replies, []api.Reply{{Port: 0, Code: 1}}) || x.Up != 2 || x.Word != -1 || v[1][51].Word != 1 || v[1][51].Sights[0] != (api.Sight{Floor: -1, Out: true}) || v[0][51].Sights[0] != (api.Sight{Floor: -1}) {
		t.Error(v[0][0], v[1][51])
	}
	for d := 1; d <= 3; d++ {
		one, e := One(c, d, p.Own[d-1], p.Words)
		if e != api.OK || Differ(one, v[d-1]) != -1 {
			t.Error(d, e)
		}
	}
	for i, x := range []struct {
		d     int
		s     api.Script
		words []int
		e     api.Errno
	}{
		{1, p.Own[0], nil, api.ErrForm}, {2, p.Own[0], p.Words, api.ErrForm}, {4, p.Own[0], nil, api.ErrRange}, {0, p.Own[0], nil, api.ErrRange}, {1, p.Own[0], []int{2}, api.ErrRange}, {1, p.Own[0], []int{-1}, api.ErrRange}, {1, p.Own[0], []int{1, 1}, api.ErrForm}, {1, small(), p.Words, api.ErrForm}, {1, api.Script{}, nil, api.OK}, {1, api.Script{}, []int{0}, api.ErrForm}, {1, api.Script{Length: 5001}, nil, api.ErrRange}, {1, p.Own[0], []int{0}, api.OK},
	} {
		if v, e := One(c, x.d, x.s, x.words); e != x.e || e != api.OK && v != nil || len(v) > x.s.Length {
			t.Error(i, e)
		}
	}
	a, b := v[0], v[1]
	if Differ(a, b) != 0 || Differ(a, a) != -1 || Differ(a, a[:7]) != 7 || Differ(nil, a) != 0 || Differ(nil, nil) != -1 {
		t.Error(Differ(a, b))
	}
	for i, change := range []func(*api.View){func(v *api.View) { v.Tick++ }, func(v *api.View) { v.Replies = []api.Reply{{}} }, func(v *api.View) { v.Sights = nil }, func(v *api.View) { v.Up++ }, func(v *api.View) { v.Down++ }, func(v *api.View) { v.Word++ }} {
		x := slices.Clone(a)
		change(&x[5])
		if Differ(a, x) != 5 {
			t.Error(i, Differ(a, x))
		}
	}
	l, e := Last(c, small())
	if e != api.OK || len(l) != 3 || l[0].Domain != 1 || l[2].Domain != 3 || l[1].Now != 60 || l[1].Out != 1 || len(l[0].Table.Calls) != 1 {
		t.Error(l, e)
	}
}

func TestP39_5_P39_8_P39_9(t *testing.T) {
	r := rand.New(rand.NewSource(39))
	for i := range 12 {
		c := shared(r)
		s := random(r, c, 900)
		v, e := Views(c, s)
		g, f := group.New(c)
		all, h := g.Run(s)
		if e != api.OK || f != api.OK || h != api.OK {
			t.Fatal(i, e, f, h)
		}
		for tick, three := range all {
			for d := range three {
				if !reflect.DeepEqual(three[d], v[d][tick]) {
					t.Fatal(i, tick, d, three[d], v[d][tick])
				}
			}
		}
		cut, _ := script.Cut(s, 0, 400)
		part, _ := Views(c, cut)
		l, _ := Last(c, s)
		for d := range part {
			if Differ(part[d], v[d][:400]) != -1 || l[d].Now != 900 || l[d].Domain != d+1 {
				t.Fatal(i, d)
			}
			for _, x := range l[d].Table.Calls {
				if c.Rules[d].Mask>>x.Floor&1 == 0 {
					t.Error(i, d, x)
				}
			}
		}
	}
	other := shared(r)
	s := random(r, other, 700)
	p, _ := Split(other, s)
	v, _ := Views(other, s)
	for d := 1; d <= 3; d++ {
		if one, e := One(other, d, p.Own[d-1], p.Words); e != api.OK || Differ(one, v[d-1]) != -1 {
			t.Error(d, e)
		}
	}
}

func TestP39_4Errors(t *testing.T) {
	a, b, c := trouble{tick: 7, err: api.ErrForm}, trouble{tick: 5, err: api.ErrState}, trouble{tick: 5, err: api.ErrRange}
	for i, x := range []struct {
		runs [3]run
		want trouble
	}{{[3]run{}, trouble{}}, {[3]run{{}, {trouble: a}}, a}, {[3]run{{trouble: a}, {trouble: b}, {trouble: c}}, b}, {[3]run{{trouble: c}, {trouble: b}}, c}, {[3]run{{trouble: a}, {}, {trouble: b}}, b}} {
		if got := earliest(x.runs); got != x.want {
			t.Error(i, got)
		}
	}
}
