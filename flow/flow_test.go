package flow

import (
	"math/rand"
	"reflect"
	"slices"
	"testing"

	"tipstaff/api"
	"tipstaff/product"
	"tipstaff/script"
	"tipstaff/wire"
)

// example is the configuration of layer 37: slots have 21 ticks.
func example() api.Config {
	return api.Config{
		Floors: 3, Gaps: []int{4, 4}, Cars: 2, Speed: 2, Width: 1, Dwell: 1, Trips: 1, Slots: 2, Life: 50, Full: 100,
		Rota: [][]int{{1, 2}, {0, 0}}, Rules: [3]api.Rule{{Mask: 7, Calls: 4}, {Mask: 7, Calls: 4}, {Mask: 7, Calls: 4}}, Keys: []int{7},
	}
}

func shared() api.Config {
	c := example()
	c.Slots, c.Rota = 3, [][]int{{1, 2, 3}, {3, 0, 1}}
	return c
}

func frame(tag, kind, a, b int) string {
	s, _ := wire.Encode(api.Frame{Tag: tag, Event: api.Event{Kind: kind, A: a, B: b}})
	return s
}

func atPort(tick, port int, data string) api.Entry {
	return api.Entry{Tick: tick, Kind: api.AtPort, Port: port, Data: data}
}

func atCar(tick, car, what, value int) api.Entry {
	return api.Entry{Tick: tick, Kind: api.AtCar, Car: car, What: what, Value: value}
}

func small() api.Script {
	return api.Script{Length: 50, Entries: []api.Entry{atPort(3, 0, ""), atCar(5, 1, api.Load, 70), atCar(25, 1, api.Obstruct, 0), atPort(30, 9, ""), atCar(40, 1, api.Load, 0)}}
}

func of(length int, l ...api.Entry) api.Script { return api.Script{Length: length, Entries: l} }

// pick returns the script with the entries of these numbers.
func pick(s api.Script, numbers ...int) api.Script {
	out := api.Script{Length: s.Length}
	for _, n := range numbers {
		out.Entries = append(out.Entries, s.Entries[n])
	}
	return out
}

func same(a, b api.Script) bool { return a.Length == b.Length && slices.Equal(a.Entries, b.Entries) }

func empty(s api.Script) bool { return reflect.DeepEqual(s, api.Script{}) }

func random(r *rand.Rand, c api.Config, length int) api.Script {
	s := api.Script{Length: length}
	for tick := range length {
		for r.Intn(3) == 0 {
			d := 1 + r.Intn(3)
			e := atPort(tick, 8*(d-1)+r.Intn(8), frame(d, 1+r.Intn(4), r.Intn(3), r.Intn(3)))
			switch r.Intn(6) {
			case 0:
				e.Data = frame(d, api.EvKey, 7, 0)
			case 1:
				e = atCar(tick, 1+r.Intn(c.Cars), api.Obstruct, 0)
			case 2:
				e = atCar(tick, 1+r.Intn(c.Cars), 1+2*(r.Intn(9)/8), 0)
			}
			s.Entries = append(s.Entries, e)
		}
	}
	return s
}

func TestP42_1_P42_6(t *testing.T) {
	c, a := example(), small()
	for d, want := range [][]int{1: {0, 1}, 2: {2, 3, 4}, 3: {}} {
		if d == 0 {
			continue
		}
		p, e := Project(c, a, d)
		r, f := Rest(c, a, d)
		again, _ := Project(c, p, d)
		if !same(p, pick(a, want...)) || e+f != api.OK || len(p.Entries)+len(r.Entries) != 5 || !same(again, p) || r.Length != 50 {
			t.Error(d, p, r, e, f)
		}
		for _, x := range r.Entries {
			if slices.Contains(p.Entries, x) {
				t.Error(d, x)
			}
		}
	}
	if r, _ := Rest(c, a, 3); !same(r, a) {
		t.Error(r)
	}
	bad := c
	bad.Keys = []int{7, 7}
	broken, foreign := of(-1), of(9, atCar(1, 3, 2, 0))
	unordered := of(9, atPort(2, 0, ""), atPort(1, 0, ""))
	for i, x := range []struct {
		c    api.Config
		a, b api.Script
		d    int
		e    api.Errno
	}{{bad, broken, unordered, 0, api.ErrOrder}, {c, broken, unordered, 0, api.ErrRange}, {c, unordered, broken, 0, api.ErrOrder}, {c, foreign, foreign, 1, api.ErrRange}, {c, a, a, 0, api.ErrRange}, {c, a, a, 4, api.ErrRange}} {
		p, e := Project(x.c, x.a, x.d)
		r, f := Rest(x.c, x.a, x.d)
		same, g := Agree(x.c, x.a, x.b, x.d)
		n, h := Differ(x.c, x.a, x.b, x.d)
		m, j := Mix(x.c, x.a, x.b, x.d)
		if !empty(p) || !empty(r) || same || n != 0 || !empty(m) || e != x.e || f != x.e || g != x.e || h != x.e || j != x.e {
			t.Error(i, e, f, g, h, j)
		}
		if w, e := Words(x.c, x.a); i < 4 && (w != nil || e != x.e) {
			t.Error(i, w, e)
		}
	}
	if _, e := Agree(c, a, unordered, 0); e != api.ErrOrder {
		t.Error(e)
	}
	if _, e := Mix(c, a, foreign, 1); e != api.ErrRange {
		t.Error(e)
	}
}

func TestP42_2_P42_5_P42_8_P42_9(t *testing.T) {
	c, a := example(), small()
	if w, e := Words(c, a); !slices.Equal(w, []int{1, 0}) || e != api.OK {
		t.Error(w, e)
	}
	for length, want := range map[int]int{0: 0, 1: 0, 21: 0, 22: 1, 42: 1, 43: 2, 20000: 952} {
		if w, e := Words(c, of(length)); len(w) != want || e != api.OK {
			t.Error(length, len(w), e)
		}
	}
	tiny := example() // Slots of 9 ticks: there are more words than one call of word.Series gives.
	tiny.Floors, tiny.Gaps, tiny.Speed = 2, []int{1}, 1
	tiny.Rules = [3]api.Rule{{Mask: 3, Calls: 1}, {Mask: 3, Calls: 1}, {Mask: 3, Calls: 1}}
	if w, e := Words(tiny, of(20000, atCar(18000, 2, api.Load, 9))); len(w) != 2222 || w[1999] != 0 || w[2000] != 2 || w[2221] != 2 || e != api.OK {
		t.Error(len(w), e)
	}
	for i, x := range []struct {
		a, b api.Script
		d    int
		want bool
	}{{a, a, 1, true}, {a, a, 2, true}, {a, pick(a, 0, 1, 2, 4), 1, true}, {a, pick(a, 0, 1, 2, 4), 2, false}, {a, pick(a, 0, 2, 3, 4), 3, false}, {a, of(51, a.Entries...), 3, false}, {a, pick(a, 0, 1, 3, 4), 1, true}, {of(42, atPort(1, 0, ""), atPort(1, 1, "")), of(42, atPort(1, 1, ""), atPort(1, 0, "")), 1, false}, {of(42, atPort(1, 0, ""), atPort(1, 8, "")), of(42, atPort(1, 8, ""), atPort(1, 0, "")), 1, true}, {of(42, atPort(1, 0, "a")), of(42, atPort(1, 0, "b")), 1, false}} {
		got, e := Agree(c, x.a, x.b, x.d)
		back, f := Agree(c, x.b, x.a, x.d)
		if got != x.want || back != got || e+f != api.OK {
			t.Error(i, got, back, e, f)
		}
	}
	r := rand.New(rand.NewSource(42))
	s := random(r, shared(), 400)
	whole, _ := Words(shared(), s)
	for _, n := range []int{0, 20, 100, 333} {
		cut, _ := script.Cut(s, 0, n)
		w, _ := Words(shared(), cut)
		if !slices.Equal(w, whole[:len(w)]) {
			t.Error(n, w, whole)
		}
	}
	agree := 0
	for range 40 {
		b := s
		b.Entries = slices.Clone(s.Entries)
		i := r.Intn(len(b.Entries))
		b.Entries = slices.Delete(b.Entries, i, i+1)
		all := true
		for d := 1; d <= 3; d++ {
			x, _ := Agree(shared(), s, b, d)
			all = all && x
		}
		if all {
			agree++
			if s.Entries[i].Kind == api.AtPort {
				t.Error(s.Entries[i])
			}
		}
	}
	if agree == 0 {
		t.Error("no two scripts agree")
	}
}

func TestP42_3(t *testing.T) {
	c, a := example(), small()
	for i, x := range []struct {
		a, b api.Script
		d    int
		want int
	}{
		{a, pick(a, 0, 1, 2, 4), 1, -1}, {a, pick(a, 0, 1, 2, 4), 2, 30}, {a, pick(a, 0, 2, 3, 4), 3, 21}, {a, a, 1, -1}, {a, of(41, a.Entries...), 1, 41}, {a, pick(a, 1, 2, 3, 4), 1, 3}, {a, pick(a, 0, 2, 3, 4), 1, 5}, {a, pick(a), 2, 21}, {of(50, atPort(3, 0, ""), atPort(9, 0, "")), of(50, atPort(3, 0, ""), atPort(7, 0, "")), 1, 7}, {of(50), of(40), 1, 40}, {of(50), of(42), 1, 42}, {of(64, atCar(30, 2, 3, 0)), of(64), 3, 42}, {of(64, atCar(30, 2, 3, 0)), of(43), 3, 42}, {of(60, atPort(50, 0, "")), of(22), 1, 22},
	} {
		n, e := Differ(c, x.a, x.b, x.d)
		m, f := Differ(c, x.b, x.a, x.d)
		if n != x.want || m != n || e+f != api.OK {
			t.Error(i, n, m, e, f)
		}
	}
}

func TestP42_4_P42_7(t *testing.T) {
	c, a := example(), small()
	if m, e := Mix(c, a, of(0), 1); !same(m, pick(a, 0, 1, 4)) || e != api.OK {
		t.Error(m, e)
	}
	b := of(99, atPort(3, 8, "x"), atPort(3, 1, "x"), atCar(5, 1, api.Obstruct, 0), atCar(5, 2, api.Obstruct, 0), atCar(6, 2, api.Load, 9), atCar(7, 2, api.MotorFail, 0), atCar(25, 1, api.Obstruct, 0), atPort(49, 23, ""), atPort(50, 8, ""))
	want := of(50, a.Entries[0], b.Entries[0], a.Entries[1], b.Entries[3], b.Entries[6], a.Entries[4], b.Entries[7])
	if m, e := Mix(c, a, b, 1); !same(m, want) || e != api.OK {
		t.Error(m, e)
	}
	many := func(n, port int) api.Script {
		return api.Script{Length: 50, Entries: slices.Repeat([]api.Entry{atPort(1, port, "")}, n)}
	}
	if m, e := Mix(c, many(1001, 0), many(1000, 8), 1); !empty(m) || e != api.ErrLong {
		t.Error(len(m.Entries), e)
	}
	if m, e := Mix(c, many(1000, 0), many(1000, 8), 1); len(m.Entries) != 2000 || e != api.OK {
		t.Error(len(m.Entries), e)
	}
	r := rand.New(rand.NewSource(4))
	c = shared()
	for range 6 {
		a, b := random(r, c, 150), random(r, c, 200)
		va, _ := product.Views(c, a)
		for d := 1; d <= 3; d++ {
			m, e := Mix(c, a, b, d)
			agree, f := Agree(c, a, m, d)
			v, g := product.Views(c, m)
			if !agree || e+f+g != api.OK || product.Differ(v[d-1], va[d-1]) != -1 {
				t.Error(d, agree, e, f, g)
			}
		}
		n, _ := Differ(c, a, b, 1)
		vb, _ := product.Views(c, b)
		if x := product.Differ(va[0], vb[0]); x >= 0 && x < n {
			t.Error(x, n)
		}
	}
}

func TestP42Bounds(t *testing.T) {
	c := example()
	for i, x := range []struct {
		a, b api.Script
		want int
	}{{of(0), of(9), 0}, {of(50, atPort(0, 0, "")), of(50), 0}, {of(64, atCar(0, 1, 3, 0), atCar(21, 1, 3, 0)), of(64, atCar(0, 1, 3, 0)), 42}} {
		n, e := Differ(c, x.a, x.b, 1)
		same, f := Agree(c, x.a, x.b, 1)
		if n != x.want || same || e+f != api.OK {
			t.Error(i, n, e, same, f)
		}
	}
}
