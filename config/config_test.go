package config

import (
	"reflect"
	"slices"
	"strings"
	"testing"

	"tipstaff/api"
	"tipstaff/profile"
)

func example() api.Config {
	return api.Config{
		Floors: 3, Gaps: []int{3, 3}, Cars: 1, Speed: 2, Brake: 1, Tol: 0, Width: 2, Dwell: 1, Retries: 1, Empty: 5, Full: 50, Trips: 2, Slots: 3, Life: 9,
		Rota: [][]int{{1, 2, 3}}, Rules: [3]api.Rule{{Mask: 7, Home: 0, Calls: 4}, {Mask: 3, Home: 1, Calls: 4}, {Mask: 4, Home: 2, Calls: 4}}, Keys: []int{7},
	}
}

func with(change func(*api.Config)) api.Config {
	c := example()
	change(&c)
	return c
}

const text = "floors 3\ncars 1\nspeed 2\nbrake 1\ntol 0\nwidth 2\ndwell 1\nretries 1\nload 5 50\ntrips 2\nslots 3\nlife 9\ngaps 3 3\nrota 1 1 2 3\nrule 1 \"0-2\" 0 4\nrule 2 \"0-1\" 1 4\nrule 3 \"2\" 2 4\nkeys 7\n"

func TestP27_1(t *testing.T) {
	if e := Check(example()); e != api.OK {
		t.Fatal(e)
	}
	for i, c := range []struct {
		low, high int
		set       func(*api.Config, int)
	}{
		{2, 64, func(c *api.Config, n int) { c.Floors = n; c.Gaps = make([]int, max(n-1, 0)); fill(c.Gaps) }}, {1, 8, func(c *api.Config, n int) {
			c.Cars = n
			c.Rota = nil
			for range n {
				c.Rota = append(c.Rota, []int{1, 2, 3})
			}
		}}, {1, 20, func(c *api.Config, n int) { c.Speed = n }}, {0, 5, func(c *api.Config, n int) { c.Brake = n }}, {0, 20, func(c *api.Config, n int) { c.Tol = n }}, {1, 20, func(c *api.Config, n int) { c.Width = n }}, {1, 50, func(c *api.Config, n int) { c.Dwell = n }}, {0, 5, func(c *api.Config, n int) { c.Retries = n }},
		{0, 10000, func(c *api.Config, n int) { c.Empty = n; c.Full = 10000 }}, {6, 10000, func(c *api.Config, n int) { c.Full = n }}, {1, 16, func(c *api.Config, n int) { c.Trips = n }}, {1, 24, func(c *api.Config, n int) { c.Slots = n; c.Rota = [][]int{make([]int, max(n, 0))} }}, {1, 100000, func(c *api.Config, n int) { c.Life = n }},
		{1, 32, func(c *api.Config, n int) { c.Rules[1].Calls = n }}, {1, 1000, func(c *api.Config, n int) { c.Gaps[1] = n }}, {0, 3, func(c *api.Config, n int) { c.Rota[0][2] = n }}, {1, 99, func(c *api.Config, n int) { c.Keys[0] = n }}, {0, 1, func(c *api.Config, n int) { c.Rules[1].Home = n }},
	} {
		for _, n := range []int{c.low - 1, c.low, c.high, c.high + 1, -1 << 63, 1<<63 - 1} {
			if (n > 1<<40 || n < -1<<40) && (i < 2 || i == 11) {
				continue
			}
			x := with(func(x *api.Config) { c.set(x, n) })
			want := api.OK
			if n < c.low || n > c.high {
				want = api.ErrRange
			}
			switch {
			case i == 0 && n == 2: // The masks have a floor too many then.
				want = api.ErrForm
			case i == 8 && n == 10000: // Full would have to be greater.
				want = api.ErrRange
			}
			if e := Check(x); e != want {
				t.Error(i, n, e)
			}
		}
	}
	for i, c := range []struct {
		c api.Config
		e api.Errno
	}{
		{with(func(c *api.Config) { c.Full = 5 }), api.ErrRange}, {with(func(c *api.Config) { c.Gaps = []int{3, 3, 0} }), api.ErrForm}, {with(func(c *api.Config) { c.Gaps = nil }), api.ErrForm}, {with(func(c *api.Config) { c.Rota = nil; c.Gaps[0] = 0 }), api.ErrRange}, {with(func(c *api.Config) { c.Rota = nil }), api.ErrForm}, {with(func(c *api.Config) { c.Rota[0] = []int{9, 1} }), api.ErrForm}, {with(func(c *api.Config) { c.Rota[0][0] = 4 }), api.ErrRange},
		{with(func(c *api.Config) { c.Cars = 2; c.Rota = [][]int{{9, 1, 1}, {1}} }), api.ErrForm}, {with(func(c *api.Config) { c.Rules[0].Mask = 0; c.Rules[0].Home = 9 }), api.ErrForm}, {with(func(c *api.Config) { c.Rules[2].Mask = 12 }), api.ErrForm}, {with(func(c *api.Config) { c.Rules[1].Home = 2 }), api.ErrRange}, {with(func(c *api.Config) { c.Rules[0].Home = 3; c.Rules[1].Mask = 0 }), api.ErrRange}, {with(func(c *api.Config) { c.Rules[0].Mask = 0; c.Keys = make([]int, 9) }), api.ErrForm},
		{with(func(c *api.Config) { c.Keys = make([]int, 9) }), api.ErrFull}, {with(func(c *api.Config) { c.Keys = []int{7, 7} }), api.ErrOrder}, {with(func(c *api.Config) { c.Keys = []int{7, 5, 100} }), api.ErrOrder}, {with(func(c *api.Config) { c.Keys = []int{7, 100, 5} }), api.ErrRange}, {with(func(c *api.Config) { c.Keys = nil }), api.OK}, {with(func(c *api.Config) { c.Life = 0; c.Gaps = nil }), api.ErrRange}, {api.Config{}, api.ErrRange},
	} {
		if e := Check(c.c); e != c.e {
			t.Error(i, e)
		}
		if c.e == api.OK {
			continue
		}
		x, a := Times(c.c)
		h, b := Home(c.c, 0)
		l, d := Longest(c.c, 0)
		n, f := Spare(c.c, -1, -1)
		s, g := Text(c.c)
		if x != (api.Times{}) || h+l+n != 0 || s != "" || a != c.e || b != c.e || d != c.e || f != c.e || g != c.e {
			t.Error(i, a, b, d, f, g)
		}
	}
}

func fill(l []int) {
	for i := range l {
		l[i] = 3
	}
}

func TestP27_2_P27_6_P27_8_P27_9(t *testing.T) {
	if x, e := Times(example()); x != (api.Times{Move: 6, Door: 9, Trip: 15, Slot: 51, Cycle: 153}) || e != api.OK {
		t.Error(x, e)
	}
	base, _ := Times(example())
	for i, c := range []api.Config{with(func(c *api.Config) { c.Gaps[0] = 9 }), with(func(c *api.Config) { c.Speed = 1 }), with(func(c *api.Config) { c.Brake = 2 }), with(func(c *api.Config) { c.Dwell = 4 })} {
		x, e := Times(c)
		if e != api.OK || x.Move < base.Move || x.Door < base.Door || x.Trip < base.Trip || x.Slot < base.Slot || x.Cycle < base.Cycle || x == base {
			t.Error(i, x, e)
		}
	}
	var all []int
	for d := 1; d <= 3; d++ {
		l, e := Ports(d)
		all = append(all, l...)
		if e != api.OK || l[0] != 8*(d-1) || len(l) != 8 {
			t.Error(d, l, e)
		}
	}
	if len(all) != 24 || !slices.IsSorted(all) || all[23] != 23 {
		t.Error(all)
	}
	for d, want := range [][2]int{{0, 6}, {3, 3}, {6, 0}} {
		h, e := Home(example(), d+1)
		l, f := Longest(example(), d+1)
		if h != want[0] || l != want[1] || e+f != api.OK || l > 6 {
			t.Error(d, h, l, e, f)
		}
	}
	for _, d := range []int{0, 4} {
		l, a := Ports(d)
		h, b := Home(example(), d)
		n, c := Longest(example(), d)
		if l != nil || h+n != 0 || a != api.ErrRange || b != a || c != a {
			t.Error(d, a, b, c)
		}
	}
}

func TestP27_3_P27_7(t *testing.T) {
	for _, c := range [][3]int{{0, 2, 0}, {0, 1, 1}, {1, 1, 6}, {2, 2, 6}} {
		a, e := Spare(example(), c[0], c[1])
		b, f := Spare(example(), c[1], c[0])
		if a != c[2] || b != c[2] || e+f != api.OK {
			t.Error(c, a, b, e, f)
		}
	}
	for _, c := range [][2]int{{-1, 0}, {0, 3}, {1 << 62, 0}} {
		if n, e := Spare(example(), c[0], c[1]); n != 0 || e != api.ErrRange {
			t.Error(c, n, e)
		}
	}
	big := with(func(c *api.Config) { c.Gaps = []int{17, 1000}; c.Speed = 7 })
	x, _ := Times(big)
	way, _ := profile.Travel(17, 7)
	if n, _ := Spare(big, 1, 0); n != x.Move-way-2 {
		t.Error(n)
	}
}

func TestP27_4_P27_5(t *testing.T) {
	s, e := Text(example())
	if s != text || e != api.OK {
		t.Error(s, e)
	}
	largest := example()
	largest.Floors, largest.Cars, largest.Slots, largest.Keys = 64, 8, 24, []int{1, 2, 3, 4, 5, 6, 98, 99}
	largest.Gaps, largest.Rota = make([]int, 63), nil
	for i := range largest.Gaps {
		largest.Gaps[i] = 1000 - i
	}
	for range 8 {
		largest.Rota = append(largest.Rota, make([]int, 24))
	}
	largest.Rules[0].Mask = 0x5555555555555555
	for _, c := range []api.Config{example(), largest, with(func(c *api.Config) { c.Keys = nil })} {
		s, e := Text(c)
		back, f := Parse(s)
		if e != api.OK || f != (api.Fault{}) || !reflect.DeepEqual(back, c) {
			t.Error(s, e, f)
		}
	}
	loose, f := Parse("# a remark\n\n " + strings.ReplaceAll(text, " ", "\t  "))
	if again, _ := Text(loose); f != (api.Fault{}) || again != text {
		t.Error(f, again)
	}
	at := func(s string) int { return strings.Index(text, s) }
	swap := func(old, new string) string { return strings.Replace(text, old, new, 1) }
	for i, c := range []struct {
		s string
		f api.Fault
	}{
		{"floors 3", api.Fault{Err: api.ErrForm, At: 8}}, {"floors 3\ncars x", api.Fault{Err: api.ErrForm, At: 9}}, {"", api.Fault{Err: api.ErrForm}}, {"floors 01", api.Fault{Err: api.ErrForm, At: 7}}, {strings.Repeat("a", 20001), api.Fault{Err: api.ErrLong, At: 20000}},
		{swap("load 5 50", "load 5"), api.Fault{Err: api.ErrForm, At: at("load")}}, {swap("load 5 50", "load 5 50 1"), api.Fault{Err: api.ErrForm, At: at("load")}}, {swap("rota 1", "rota 2"), api.Fault{Err: api.ErrForm, At: at("rota")}}, {swap("rota 1 1 2 3", "rota"), api.Fault{Err: api.ErrForm, At: at("rota")}}, {swap("rota 1 1 2 3", "rota 1"), api.Fault{Err: api.ErrForm}}, {swap("rule 2", "rule 3"), api.Fault{Err: api.ErrForm, At: at("rule 2")}}, {swap("\"0-1\"", "\"1-0\""), api.Fault{Err: api.ErrForm, At: at("rule 2")}}, {swap("\"0-1\"", "3"), api.Fault{Err: api.ErrForm, At: at("rule 2")}}, {swap("\"2\" 2 4", "\"2\" 2 4 4"), api.Fault{Err: api.ErrForm, At: at("rule 3")}}, {swap("\"2\" 2 4", "\"2\" 2 x"), api.Fault{Err: api.ErrForm, At: at("rule 3")}},
		{text + "keys 7\n", api.Fault{Err: api.ErrForm, At: len(text)}}, {swap("keys 7\n", ""), api.Fault{Err: api.ErrForm, At: len(text) - 7}}, {swap("speed 2", "speed \"2\""), api.Fault{Err: api.ErrForm, At: at("speed")}}, {swap("speed 2", "pace 2"), api.Fault{Err: api.ErrForm, At: at("speed")}}, {swap("speed 2", "3 2"), api.Fault{Err: api.ErrForm, At: at("speed")}},
		{swap("speed 2", "speed 99"), api.Fault{Err: api.ErrRange}}, {swap("gaps 3 3", "gaps"), api.Fault{Err: api.ErrForm}}, {swap("cars 1", "cars 0"), api.Fault{Err: api.ErrForm, At: at("rota")}}, {strings.Replace(swap("cars 1", "cars 9"), "rota 1 1 2 3\n", "", 1), api.Fault{Err: api.ErrRange}}, {swap("cars 1", "cars 2"), api.Fault{Err: api.ErrForm, At: at("rule 1")}}, {swap("keys 7", "keys 7 7"), api.Fault{Err: api.ErrOrder}}, {swap("life 9", "life -1099511627776"), api.Fault{Err: api.ErrRange}}, {swap("\"0-1\"", "\"none\""), api.Fault{Err: api.ErrForm}},
	} {
		if got, f := Parse(c.s); f != c.f || !reflect.DeepEqual(got, api.Config{}) {
			t.Error(i, got, f)
		}
	}
}
