package script

import (
	"reflect"
	"slices"
	"strings"
	"testing"

	"tipstaff/api"
)

func port(tick, p int, data string) api.Entry {
	return api.Entry{Tick: tick, Kind: api.AtPort, Port: p, Data: data}
}

func car(tick, c, what, value int) api.Entry {
	return api.Entry{Tick: tick, Kind: api.AtCar, Car: c, What: what, Value: value}
}

func example() api.Script {
	return api.Script{Length: 9, Entries: []api.Entry{port(3, 4, "hi"), car(3, 2, api.Load, 70), car(5, 1, api.BrakeFail, 0)}}
}

func same(a, b api.Script) bool { return a.Length == b.Length && slices.Equal(a.Entries, b.Entries) }

func empty(s api.Script) bool { return reflect.DeepEqual(s, api.Script{}) }

func TestP34_1(t *testing.T) {
	for i, c := range []struct {
		e    api.Entry
		want api.Errno
	}{
		{port(-9, 23, strings.Repeat("x", 16)), api.OK}, {car(0, 8, api.Load, 10000), api.OK}, {car(0, 1, api.DoorFail, 0), api.OK}, {api.Entry{Kind: api.AtPort, Car: 1}, api.ErrForm}, {api.Entry{Kind: api.AtPort, What: 1}, api.ErrForm}, {api.Entry{Kind: api.AtPort, Value: 1}, api.ErrForm}, {car(0, 1, api.Obstruct, 1), api.ErrRange}, {car(0, 0, 7, 0), api.ErrKind}, {car(0, 1, 0, 0), api.ErrKind}, {api.Entry{Kind: 3, Port: 99}, api.ErrKind}, {api.Entry{}, api.ErrKind}, {port(0, 24, strings.Repeat("x", 17)), api.ErrRange}, {port(0, -1, ""), api.ErrRange}, {port(0, 0, strings.Repeat("x", 17)), api.ErrLong},
		{car(0, 0, 1, 0), api.ErrRange}, {car(0, 9, 1, 0), api.ErrRange}, {car(0, 1, 1, 10001), api.ErrRange}, {car(0, 1, 1, -1), api.ErrRange}, {api.Entry{Kind: api.AtCar, Car: 1, What: 1, Port: 1}, api.ErrForm}, {api.Entry{Kind: api.AtCar, Car: 1, What: 1, Data: "x"}, api.ErrForm},
	} {
		if e := One(c.e); e != c.want {
			t.Error(i, e)
		}
	}
}

func TestP34_2(t *testing.T) {
	if f := Check(example()); f != (api.Fault{}) {
		t.Fatal(f)
	}
	for i, c := range []struct {
		s api.Script
		f api.Fault
	}{
		{api.Script{Length: -1, Entries: make([]api.Entry, 2001)}, api.Fault{Err: api.ErrRange}}, {api.Script{Length: 20001}, api.Fault{Err: api.ErrRange}}, {api.Script{Length: 9, Entries: make([]api.Entry, 2001)}, api.Fault{Err: api.ErrFull}}, {api.Script{Length: 9, Entries: []api.Entry{port(5, 0, ""), port(3, 0, "")}}, api.Fault{Err: api.ErrOrder, At: 1}}, {api.Script{Length: 9, Entries: []api.Entry{port(5, 0, ""), port(9, 0, "")}}, api.Fault{Err: api.ErrRange, At: 1}}, {api.Script{Length: 9, Entries: []api.Entry{port(-1, 0, "")}}, api.Fault{Err: api.ErrRange}}, {api.Script{Length: 9, Entries: []api.Entry{port(5, 0, ""), port(5, 0, ""), car(99, 1, 9, 0)}}, api.Fault{Err: api.ErrKind, At: 2}}, {api.Script{Entries: []api.Entry{port(0, 0, "")}}, api.Fault{Err: api.ErrRange}},
	} {
		if f := Check(c.s); f != c.f {
			t.Error(i, f)
		}
		text, a := Text(c.s)
		l, b := At(c.s, -1)
		x, d := Cut(c.s, -1, 0)
		y, e := Join(example(), c.s)
		z, f := Join(c.s, api.Script{Length: -1})
		w, g := Without(c.s, -1)
		n, h := Faults(c.s, 0)
		for _, e := range []api.Errno{a, b, d, e, f, g, h} {
			if e != c.f.Err {
				t.Error(i, a, b, d, e, f, g, h)
			}
		}
		if text != "" || l != nil || !empty(x) || !empty(y) || !empty(z) || !empty(w) || n != nil {
			t.Error(i, "not zero")
		}
	}
	if f := Check(api.Script{Length: 20000, Entries: slices.Repeat([]api.Entry{port(19999, 0, "")}, 2000)}); f != (api.Fault{}) {
		t.Error(f)
	}
}

func TestP34_3_P34_5(t *testing.T) {
	s, e := Text(example())
	if s != "length 9\nport 3 4 \"hi\"\nload 3 2 70\nbrake 5 1\n" || e != api.OK {
		t.Error(s, e)
	}
	all := api.Script{Length: 20, Entries: []api.Entry{port(0, 0, "\x00\"\\é\xff"), car(1, 8, 1, 0), car(1, 1, 2, 0), car(2, 2, 3, 0), car(2, 3, 4, 0), car(3, 4, 5, 0), car(19, 5, 6, 0)}}
	for _, x := range []api.Script{example(), all, {}} {
		s, e := Text(x)
		back, f := Parse(s)
		if e != api.OK || f != (api.Fault{}) || !same(back, x) {
			t.Error(s, back, f)
		}
		loose, f := Parse("#\n " + strings.ReplaceAll(s, "\n", " # x\n"))
		if again, _ := Text(loose); f != (api.Fault{}) || again != s {
			t.Error(again, f)
		}
	}
	if s, e := Text(api.Script{Length: 20000, Entries: slices.Repeat([]api.Entry{port(19999, 0, "")}, 2000)}); s != "" || e != api.ErrLong {
		t.Error(len(s), e)
	}
	for text, want := range map[string]api.Fault{
		"": {Err: api.ErrForm}, "# x": {Err: api.ErrForm}, "length 9/door 9 1": {Err: api.ErrRange, At: 9}, "length 9/door 3": {Err: api.ErrForm, At: 9}, "length 9/load 3 2 10001": {Err: api.ErrRange, At: 9}, "port 3 4 \"\"": {Err: api.ErrForm}, "length": {Err: api.ErrForm}, "length x": {Err: api.ErrForm}, "length 9 9": {Err: api.ErrForm}, "/# x/length 9/length 9": {Err: api.ErrForm, At: 14}, "/ length x": {Err: api.ErrForm, At: 1}, "length 9/load 3 2": {Err: api.ErrForm, At: 9}, "length 9/obstruct 3 2 0": {Err: api.ErrForm, At: 9}, "length 9/port 3 4 5": {Err: api.ErrForm, At: 9}, "length 9/port 3 4 hi": {Err: api.ErrForm, At: 9}, "length 9/lift 3 4": {Err: api.ErrForm, At: 9}, "length 9/3 4": {Err: api.ErrForm, At: 9},
		"length 20001/door 3 9": {Err: api.ErrRange}, "length 9/door 3 1//door 2 1": {Err: api.ErrOrder, At: 19}, "length 9/door 3 9/x": {Err: api.ErrForm, At: 18}, "length 9/door 3 01": {Err: api.ErrForm, At: 16}, "length 9/port 3 0 \"12345678901234567\"": {Err: api.ErrLong, At: 9}, "length 9/port 3 24 \"12345678901234567\"": {Err: api.ErrRange, At: 9}, strings.Repeat("a", 1001): {Err: api.ErrLong}, "length 20000" + strings.Repeat("/door 1 1", 2001): {Err: api.ErrFull},
	} {
		s, f := Parse(strings.ReplaceAll(text, "/", "\n"))
		if !empty(s) || f != want {
			t.Error(text[:min(len(text), 40)], s, f)
		}
	}
}

func TestP34_4_P34_6_P34_7_P34_8_P34_9(t *testing.T) {
	s := example()
	for tick, want := range map[int][]api.Entry{3: s.Entries[:2], 4: nil, 5: s.Entries[2:], 8: nil} {
		if l, e := At(s, tick); !slices.Equal(l, want) || e != api.OK {
			t.Error(tick, l, e)
		}
	}
	var all []api.Entry
	for tick := range 9 {
		l, _ := At(s, tick)
		all = append(all, l...)
	}
	if !slices.Equal(all, s.Entries) {
		t.Error(all)
	}
	for _, tick := range []int{-1, 9} {
		if l, e := At(s, tick); l != nil || e != api.ErrRange {
			t.Error(l, e)
		}
	}
	if c, e := Cut(s, 3, 6); !same(c, api.Script{Length: 3, Entries: []api.Entry{port(0, 4, "hi"), car(0, 2, 1, 70), car(2, 1, 4, 0)}}) || e != api.OK {
		t.Error(c, e)
	}
	for _, c := range [][2]int{{6, 5}, {-1, 5}, {0, 10}, {1 << 62, 5}} {
		if x, e := Cut(s, c[0], c[1]); !empty(x) || e != api.ErrRange {
			t.Error(c, x, e)
		}
	}
	for at := 0; at <= 9; at++ {
		a, _ := Cut(s, 0, at)
		b, _ := Cut(s, at, 9)
		j, e := Join(a, b)
		if !same(j, s) || e != api.OK {
			t.Error(at, j, e)
		}
		x, _ := Join(a, s)
		x, _ = Join(x, b)
		y, _ := Join(s, b)
		y, _ = Join(a, y)
		if !same(x, y) {
			t.Error(at, x, y)
		}
		for to := at; to <= 9; to++ {
			one, _ := Cut(s, at, to)
			if two, _ := Cut(b, 0, to-at); !same(one, two) {
				t.Error(at, to, one, two)
			}
		}
	}
	if x, e := Join(api.Script{Length: 20000}, api.Script{Length: 1}); !empty(x) || e != api.ErrRange {
		t.Error(x, e)
	}
	many := api.Script{Length: 9, Entries: slices.Repeat([]api.Entry{port(1, 0, "")}, 1998)}
	if x, e := Join(many, s); !empty(x) || e != api.ErrFull {
		t.Error(x, e)
	}
	for at := range 3 {
		w, e := Without(s, at)
		if e != api.OK || len(w.Entries) != 2 || !same(api.Script{Length: 9, Entries: slices.Insert(slices.Clone(w.Entries), at, s.Entries[at])}, s) || !same(s, example()) {
			t.Error(at, w, e)
		}
		w.Entries[0].Tick = 77
		if !same(s, example()) {
			t.Fatal("shared memory")
		}
	}
	for _, at := range []int{-1, 3} {
		if w, e := Without(s, at); !empty(w) || e != api.ErrRange {
			t.Error(at, w, e)
		}
	}
	x := api.Script{Length: 9, Entries: []api.Entry{car(1, 1, 3, 0), car(1, 1, 6, 0), car(2, 1, 2, 0), car(3, 1, 5, 0), car(3, 2, 4, 0), car(4, 1, 1, 5)}}
	for c, want := range [][]int{1: {1, 3}, 2: {3}, 3: nil} {
		if l, e := Faults(x, max(c, 1)); c > 0 && (!slices.Equal(l, want) || e != api.OK) {
			t.Error(c, l, e)
		}
	}
	for _, c := range []int{0, 9} {
		if l, e := Faults(x, c); l != nil || e != api.ErrRange {
			t.Error(c, l, e)
		}
	}
}

func TestP34Bounds(t *testing.T) {
	s := example()
	if c, e := Cut(s, 0, 9); !same(c, s) || e != api.OK {
		t.Error(c, e)
	}
	if c, e := Cut(s, 9, 9); c.Length != 0 || len(c.Entries) != 0 || e != api.OK {
		t.Error(c, e)
	}
	if l, e := At(s, 0); len(l) != 0 || e != api.OK {
		t.Error(l, e)
	}
	if x, e := Join(api.Script{Length: 19991}, s); x.Length != 20000 || e != api.OK {
		t.Error(x.Length, e)
	}
	many := api.Script{Length: 9, Entries: slices.Repeat([]api.Entry{port(1, 0, "")}, 1997)}
	if x, e := Join(many, s); len(x.Entries) != 2000 || e != api.OK {
		t.Error(len(x.Entries), e)
	}
}
