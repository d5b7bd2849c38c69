package bench

import (
	"math/rand"
	"reflect"
	"slices"
	"strings"
	"testing"

	"tipstaff/api"
	"tipstaff/config"
	"tipstaff/domain"
	"tipstaff/group"
	"tipstaff/script"
	"tipstaff/trace"
	"tipstaff/wire"
)

// example is the configuration of chapter 37's examples: a slot has 21 ticks.
func example() api.Config {
	return api.Config{
		Floors: 3, Gaps: []int{4, 4}, Cars: 2, Speed: 2, Width: 1, Dwell: 1, Trips: 1, Slots: 2, Life: 50, Full: 100,
		Rota: [][]int{{1, 2}, {0, 0}}, Rules: [3]api.Rule{{Mask: 7, Calls: 4}, {Mask: 7, Calls: 4}, {Mask: 7, Calls: 4}}, Keys: []int{7},
	}
}

func shared() api.Config {
	c := example()
	c.Floors, c.Gaps, c.Cars, c.Brake, c.Tol, c.Width, c.Retries, c.Trips, c.Slots, c.Empty = 4, []int{4, 7, 3}, 3, 1, 1, 2, 1, 2, 4, 10
	c.Rota = [][]int{{1, 2, 3, 0}, {1, 3, 3, 1}, {2, 1, 3, 1}}
	c.Rules = [3]api.Rule{{Mask: 15, Home: 0, Calls: 6}, {Mask: 7, Home: 2, Calls: 3}, {Mask: 13, Home: 3, Calls: 4}}
	return c
}

func textOf(t *testing.T, c api.Config) string {
	s, e := config.Text(c)
	if e != api.OK {
		t.Fatal(e)
	}
	return s
}

func scriptOf(t *testing.T, length int, l ...api.Entry) string {
	s, e := script.Text(api.Script{Length: length, Entries: l})
	if e != api.OK {
		t.Fatal(e)
	}
	return s
}

func frame(tag, kind, a, b int) string {
	s, _ := wire.Encode(api.Frame{Tag: tag, Event: api.Event{Kind: kind, A: a, B: b}})
	return s
}

func atPort(tick, port int, data string) api.Entry {
	return api.Entry{Tick: tick, Kind: api.AtPort, Port: port, Data: data}
}

func atCar(tick, car, what, value int) api.Entry {
	return api.Entry{Tick: tick, Kind: api.AtCar, Car: car, What: what, Value: value}
}

func entries() []api.Entry {
	return []api.Entry{atPort(0, 0, frame(1, api.EvHall, 2, 1)), atPort(0, 8, frame(2, api.EvHall, 1, 2)), atCar(1, 1, api.Obstruct, 0)}
}

func random(r *rand.Rand, c api.Config, length, most int) []api.Entry {
	var l []api.Entry
	for tick := range length {
		for r.Intn(length)*2 < most*3 && len(l) < most {
			d := 1 + r.Intn(3)
			e := atPort(tick, 8*(d-1)+r.Intn(8), frame(d, 1+r.Intn(4), r.Intn(4), r.Intn(4)))
			switch r.Intn(6) {
			case 0:
				e.Data = frame(d, api.EvHall, r.Intn(c.Floors), 1+r.Intn(2))
			case 1:
				e = atCar(tick, 1+r.Intn(c.Cars), api.Obstruct, 0)
			case 2:
				e = atCar(tick, 1+r.Intn(c.Cars), 1+r.Intn(6), 0)
			case 3:
				e.Data = frame(d, api.EvKey, 7, 0)
			}
			l = append(l, e)
		}
	}
	return l
}

func TestP44_1(t *testing.T) {
	c := textOf(t, example())
	x := scriptOf(t, 12, entries()...)
	n := len(c)
	for i, x := range []struct {
		c, s string
		f    api.Fault
	}{
		{"", x, api.Fault{Err: api.ErrForm}}, {"floors 3", "", api.Fault{Err: api.ErrForm, At: 8}}, {strings.Replace(c, "keys 7", "keys 7 7", 1), "", api.Fault{Err: api.ErrOrder}}, {c, "", api.Fault{Err: api.ErrForm, At: n}}, {c, "length 9\ndoor 3", api.Fault{Err: api.ErrForm, At: n + 9}}, {c, "length 5001\n", api.Fault{Err: api.ErrRange, At: n}}, {c, "length 9\ndoor 3 1\ndoor 3 3\n", api.Fault{Err: api.ErrRange, At: n}}, {c, "length 9\ndoor 3 1\ndoor 3 9\n", api.Fault{Err: api.ErrRange, At: n + 18}},
	} {
		a, f1 := Run(x.c, x.s, 0)
		tick, d, f2 := Compare(x.c, x.s)
		k, at, first, f3 := Judge(x.c, x.s)
		y, f4 := Apart(x.c, x.s, "zzz", 0)
		l, f5 := Needless(x.c, x.s, 0)
		s, f6 := Shrink(x.c, x.s, 0, 0)
		m, f7 := Count(x.c, x.s)
		for _, f := range []api.Fault{f1, f2, f3, f4, f5, f6, f7} {
			if f != x.f {
				t.Error(i, f1, f2, f3, f4, f5, f6, f7)
			}
		}
		if a != "" || tick+d+k+at+y != 0 || first != "" || l != nil || s != "" || m != nil {
			t.Error(i, "not zero")
		}
	}
	for b, want := range map[string]api.Fault{"": {Err: api.ErrForm, At: n + len(x)}, "length 9\ndoor 3": {Err: api.ErrForm, At: n + len(x) + 9}, "length 5001\n": {Err: api.ErrRange, At: n + len(x)}} {
		if tick, f := Apart(c, x, b, 0); tick != 0 || f != want {
			t.Error(b, tick, f)
		}
	}
	long := scriptOf(t, 9, slices.Repeat([]api.Entry{atPort(0, 0, "")}, 41)...)
	for _, d := range []int{0, 4} {
		_, a := Run(c, x, d)
		_, b := Apart(c, x, x, d)
		_, e := Needless(c, long, d)
		_, g := Shrink(c, long, d, 0)
		for _, f := range []api.Fault{a, b, e, g} {
			if f != (api.Fault{Err: api.ErrRange}) {
				t.Error(d, a, b, e, g)
			}
		}
	}
}

func TestP44_2_P44_3_P44_6(t *testing.T) {
	c, x := textOf(t, example()), scriptOf(t, 12, entries()...)
	if tick, d, f := Compare(c, x); tick != -1 || d != 0 || f != (api.Fault{}) {
		t.Error(tick, d, f)
	}
	if n, tick, s, f := Judge(c, x); n != 0 || tick != -1 || s != "" || f != (api.Fault{}) {
		t.Error(n, tick, s, f)
	}
	if s, f := Run(c, x, 2); s != "from 0 2\nat 0\nreply 8 1\ndown 1\nto 11\n" || f != (api.Fault{}) {
		t.Error(s, f)
	}
	g, _ := group.New(example())
	run, _ := g.Run(api.Script{Length: 12, Entries: entries()})
	for d := 1; d <= 3; d++ {
		var l []api.View
		for _, v := range run {
			l = append(l, v[d-1])
		}
		want, _ := trace.Text(l)
		if s, f := Run(c, x, d); s != want || f != (api.Fault{}) || d < 3 && len(s) < 30 {
			t.Error(d, s, f)
		}
	}
	if s, f := Run(c, "length 0", 1); s != "" || f != (api.Fault{}) {
		t.Error(s, f)
	}
	if s, f := Run(c, scriptOf(t, 9, slices.Repeat([]api.Entry{atPort(0, 0, "")}, 51)...), 1); s != "" || f != (api.Fault{Err: api.ErrLong}) {
		t.Error(s, f)
	}
	r := rand.New(rand.NewSource(44))
	for range 4 {
		c, x := textOf(t, shared()), scriptOf(t, 700, random(r, shared(), 700, 500)...)
		if tick, d, f := Compare(c, x); tick != -1 || d != 0 || f != (api.Fault{}) {
			t.Error(tick, d, f)
		}
		if n, tick, s, f := Judge(c, x); n != 0 || tick != -1 || s != "" || f != (api.Fault{}) {
			t.Error(n, tick, s, f)
		}
	}
	var j judge
	j.add(5, nil, api.OK)
	j.add(6, []api.Violation{{Kind: 1, Car: 1, Floor: -1}}, api.ErrOrder)
	j.add(7, []api.Violation{{Kind: 2, Car: 2, Floor: -1}, {Kind: 3, Car: 1}}, api.OK)
	j.add(8, []api.Violation{{Kind: 1, Car: 1, Floor: -1}}, api.OK)
	if j != (judge{n: 3, tick: 7, first: "motor car 2"}) {
		t.Error(j)
	}
}

func TestP44_4_P44_9(t *testing.T) {
	c, e := textOf(t, example()), entries()
	x := scriptOf(t, 12, e...)
	for i, y := range []struct {
		s    string
		d    int
		want int
	}{{scriptOf(t, 9, e...), 1, 9}, {scriptOf(t, 12, e[0], e[2]), 1, -1}, {scriptOf(t, 12, e[0], e[2]), 2, 0}, {x, 3, -1}, {scriptOf(t, 0), 3, 0}, {scriptOf(t, 12, e[0], e[1]), 1, -1}, {scriptOf(t, 12, e[0], e[1], atCar(7, 1, 3, 0)), 1, 7}} {
		n, f := Apart(c, x, y.s, y.d)
		m, g := Apart(c, y.s, x, y.d)
		if n != y.want || m != n || f != (api.Fault{}) || g != f {
			t.Error(i, n, m, f, g)
		}
	}
	if l, f := Count(c, x); !slices.Equal(l, []int{2, 1, 0, 0}) || f != (api.Fault{}) {
		t.Error(l, f)
	}
	all := scriptOf(t, 30, append(entries(), atCar(2, 2, 2, 0), atPort(3, 23, ""), atCar(25, 1, 2, 0))...)
	if l, f := Count(c, all); !slices.Equal(l, []int{2, 2, 1, 1}) || f != (api.Fault{}) {
		t.Error(l, f)
	}
}

func TestP44_5_P44_7_P44_8(t *testing.T) {
	c, e := textOf(t, example()), entries()
	x := scriptOf(t, 12, e...)
	for d, want := range [][]int{1: {1, 2}, 2: {0, 2}, 3: {0, 1, 2}} {
		if l, f := Needless(c, x, max(d, 1)); d > 0 && (!slices.Equal(l, want) || f != (api.Fault{})) {
			t.Error(d, l, f)
		}
	}
	for i, y := range []struct {
		code int
		want string
		f    api.Fault
	}{{api.Accepted, scriptOf(t, 12, e[0]), api.Fault{}}, {api.Known, "", api.Fault{Err: api.ErrMissing}}, {7, "", api.Fault{Err: api.ErrKind}}, {0, "", api.Fault{Err: api.ErrKind}}} {
		if s, f := Shrink(c, x, 1, y.code); s != y.want || f != y.f {
			t.Error(i, s, f)
		}
	}
	many := func(n int) string {
		return scriptOf(t, 9, slices.Repeat([]api.Entry{atPort(0, 0, "")}, n)...)
	}
	_, f := Needless(c, many(41), 1)
	_, g := Shrink(c, many(41), 1, 99)
	if f != (api.Fault{Err: api.ErrFull}) || g != f {
		t.Error(f, g)
	}
	if l, f := Needless(c, many(40), 2); len(l) != 40 || f != (api.Fault{}) {
		t.Error(l, f)
	}
	if s, f := Shrink(c, many(40), 1, api.Malformed); s != many(1) || f != (api.Fault{}) {
		t.Error(s, f)
	}
	// A Known needs the call before it; without the first one the third is Accepted, and the second pass finds nothing more.
	known := scriptOf(t, 12, append([]api.Entry{atPort(0, 1, "x")}, e[0], atPort(1, 0, e[0].Data), atPort(2, 3, e[0].Data))...)
	if s, f := Shrink(c, known, 1, api.Known); s != scriptOf(t, 12, e[0], atPort(1, 0, e[0].Data)) || f != (api.Fault{}) {
		t.Error(s, f)
	}
	r := rand.New(rand.NewSource(8))
	for range 3 {
		conf := shared()
		c, l := textOf(t, conf), random(r, conf, 200, 25)
		x := scriptOf(t, 200, l...)
		for d := 1; d <= 3; d++ {
			needless, _ := Needless(c, x, d)
			var rest []api.Entry
			for i, e := range l {
				mine, _ := domain.Belongs(conf, d, e)
				free := !mine && (e.Kind == api.AtPort || e.What == api.Obstruct)
				if !free {
					rest = append(rest, e)
				} else if !slices.Contains(needless, i) {
					t.Error(d, i, e)
				}
				without, _ := Run(c, scriptOf(t, 200, slices.Delete(slices.Clone(l), i, i+1)...), d)
				if all, _ := Run(c, x, d); (all == without) != slices.Contains(needless, i) {
					t.Error(d, i, needless)
				}
			}
			if n, f := Apart(c, x, scriptOf(t, 200, rest...), d); n != -1 || f != (api.Fault{}) {
				t.Error(d, n, f)
			}
			for code := 1; code <= 6; code++ {
				s, f := Shrink(c, x, d, code)
				if f.Err == api.ErrMissing {
					continue
				}
				again, g := Shrink(c, s, d, code)
				run, _ := Run(c, s, d)
				views, _ := trace.Parse(run)
				counts, _ := trace.Codes(views)
				if f != (api.Fault{}) || g != f || again != s || counts[code-1] == 0 {
					t.Error(d, code, s, f, again, g)
				}
				small, _ := script.Parse(s)
				if !isPart(small.Entries, l) || reflect.DeepEqual(small.Entries, l) {
					t.Error(d, code, s)
				}
			}
		}
	}
}

// isPart reports whether a list is another one without some of its elements.
func isPart(part, l []api.Entry) bool {
	for _, e := range l {
		if len(part) > 0 && part[0] == e {
			part = part[1:]
		}
	}
	return len(part) == 0
}

func TestP44_2Differences(t *testing.T) {
	g, _ := group.New(example())
	run, _ := g.Run(api.Script{Length: 9, Entries: entries()})
	for i, x := range []struct {
		change       map[[2]int]uint64
		tick, domain int
	}{{nil, -1, 0}, {map[[2]int]uint64{{2, 0}: 1}, 0, 2}, {map[[2]int]uint64{{3, 5}: 9, {1, 7}: 9}, 5, 3}, {map[[2]int]uint64{{3, 5}: 9, {2, 5}: 9}, 5, 2}, {map[[2]int]uint64{{1, 8}: 64}, 8, 1}} {
		own := [][]api.View{of(run, 1), of(run, 2), of(run, 3)}
		for at, up := range x.change {
			own[at[0]-1][at[1]].Up ^= up
		}
		if tick, domain := differ(run, own); tick != x.tick || domain != x.domain {
			t.Error(i, tick, domain)
		}
	}
}
