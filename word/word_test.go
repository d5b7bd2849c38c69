package word

import (
	"slices"
	"testing"

	"tipstaff/api"
)

func of(tick, car, what, value int) api.Entry {
	return api.Entry{Tick: tick, Kind: api.AtCar, Car: car, What: what, Value: value}
}

var loads = []int{0, 80, 0}

func TestP33_1(t *testing.T) {
	for i, c := range []struct {
		l     []api.Entry
		word  int
		after []int
	}{{nil, 2, []int{0, 80, 0}}, {[]api.Entry{of(0, 2, 1, 40), of(0, 3, 1, 60), of(5, 3, 1, 50)}, 0, []int{0, 40, 50}}, {[]api.Entry{of(0, 1, 4, 0), of(0, 2, 1, 0), of(0, 2, 2, 0)}, 1, []int{0, 0, 0}}, {[]api.Entry{of(0, 3, 1, 51), {Kind: api.AtPort, Car: 99, What: 3}}, 6, []int{0, 80, 51}}, {[]api.Entry{of(0, 1, 3, 0), of(0, 2, 5, 0), of(1, 3, 6, 0)}, 7, []int{0, 80, 0}}} {
		if w, after, e := Of(50, loads, c.l); w != c.word || !slices.Equal(after, c.after) || e != api.OK {
			t.Error(i, w, after, e)
		}
	}
	if _, after, _ := Of(50, loads, nil); true {
		after[0] = 9
		if loads[0] != 0 {
			t.Error("shared memory")
		}
	}
	bad := []api.Entry{of(-1, 0, 0, 0)}
	for i, c := range []struct {
		empty int
		loads []int
		l     []api.Entry
		e     api.Errno
	}{
		{-1, loads, nil, api.ErrRange}, {10001, loads, nil, api.ErrRange}, {50, nil, nil, api.ErrRange}, {50, make([]int, 9), nil, api.ErrRange}, {50, []int{-1}, make([]api.Entry, 2001), api.ErrRange}, {50, []int{10001}, nil, api.ErrRange}, {50, loads, make([]api.Entry, 2001), api.ErrLong}, {50, loads, bad, api.ErrRange}, {50, loads, []api.Entry{of(1<<40+1, 1, 1, 0)}, api.ErrRange}, {50, loads, []api.Entry{of(5, 1, 1, 0), of(4, 9, 9, 0)}, api.ErrOrder}, {50, loads, []api.Entry{of(5, 1, 1, 0), {Kind: 3, Tick: 5}, of(4, 1, 1, 0)}, api.ErrKind}, {50, loads, []api.Entry{{}}, api.ErrKind},
		{50, loads, []api.Entry{of(0, 4, 2, 0)}, api.ErrRange}, {50, loads, []api.Entry{of(0, 0, 2, 0)}, api.ErrRange}, {50, loads, []api.Entry{of(0, 1, 2, 1)}, api.ErrRange}, {50, loads, []api.Entry{of(0, 1, 7, 0)}, api.ErrRange}, {50, loads, []api.Entry{of(0, 1, 0, 0)}, api.ErrRange}, {50, loads, []api.Entry{of(0, 1, 1, 10001)}, api.ErrRange}, {50, loads, []api.Entry{of(0, 1, 1, -1)}, api.ErrRange},
	} {
		w, after, e := Of(c.empty, c.loads, c.l)
		s, f := Series(c.empty, c.loads, c.l, 0, -1)
		if w != 0 || after != nil || e != c.e || s != nil || f != c.e {
			t.Error(i, w, after, e, s, f)
		}
	}
	if _, _, e := Of(50, loads, slices.Repeat([]api.Entry{of(0, 1, 1, 0)}, 2000)); e != api.OK {
		t.Error(e)
	}
}

func TestP33_2_P33_5_P33_6_P33_7(t *testing.T) {
	l := []api.Entry{of(3, 1, 3, 0), of(12, 2, 1, 0)}
	if s, e := Series(50, loads, l, 10, 3); !slices.Equal(s, []int{3, 0, 0}) || e != api.OK {
		t.Error(s, e)
	}
	for i, c := range []struct {
		slot, n int
		e       api.Errno
	}{{0, 1, api.ErrRange}, {1<<40 + 1, 1, api.ErrRange}, {1 << 40, 1000, api.OK}, {1, -1, api.ErrRange}, {1, 1001, api.ErrRange}, {1, 0, api.OK}} {
		if s, e := Series(50, loads, l, c.slot, c.n); e != c.e || e == api.OK && len(s) != c.n || e != api.OK && s != nil {
			t.Error(i, s, e)
		}
	}
	many := []api.Entry{of(0, 1, 1, 60), of(4, 2, 2, 0), of(9, 2, 1, 0), of(10, 3, 4, 0), of(19, 1, 1, 0), of(20, 1, 6, 0), of(35, 3, 1, 99)}
	s, _ := Series(50, loads, many, 10, 5)
	now := loads
	for i, want := range s {
		var in []api.Entry
		for _, e := range many {
			if e.Tick/10 == i {
				in = append(in, e)
			}
		}
		w, after, _ := Of(50, now, in)
		if w != want {
			t.Error(i, w, want)
		}
		now = after
	}
	for cut := range many {
		all, after, _ := Of(50, loads, many)
		a, mid, _ := Of(50, loads, many[:cut])
		b, end, _ := Of(50, mid, many[cut:])
		if !slices.Equal(after, end) || b&^all != 0 || all&^(a|b) != 0 {
			t.Error(cut, all, a, b)
		}
		less := slices.Delete(slices.Clone(many), cut, cut+1)
		w, _, _ := Of(50, loads, less)
		if (w^all)&^(1<<uint(many[cut].Car-1)) != 0 || many[cut].What == api.Obstruct && w != all {
			t.Error(cut, w, all)
		}
	}
}

func TestP33_3_P33_8(t *testing.T) {
	for cars := 1; cars <= 8; cars++ {
		for w := range 1 << cars {
			l, e := Cars(w, cars)
			back, f := Make(l, cars)
			if e+f != api.OK || back != w || !slices.IsSorted(l) {
				t.Error(w, cars, l, back)
			}
			a, _ := Merge(w, 1, cars)
			b, _ := Merge(1, w, cars)
			d, g := Differ(w, w, cars)
			if a != b || a != w|1 || len(d) != 0 || g != api.OK {
				t.Error(w, cars, a, b, d)
			}
		}
	}
	if w, e := Make([]int{3, 1, 3}, 3); w != 5 || e != api.OK {
		t.Error(w, e)
	}
	if l, e := Differ(3, 6, 3); !slices.Equal(l, []int{1, 3}) || e != api.OK {
		t.Error(l, e)
	}
	for _, c := range [][2]int{{8, 3}, {-1, 3}, {0, 0}, {0, 9}, {0, -1}} {
		l, a := Cars(c[0], c[1])
		m, b := Merge(c[0], 0, c[1])
		n, d := Merge(0, c[0], c[1])
		k, f := Differ(0, c[0], c[1])
		s, g := Text(c[0], c[1])
		if l != nil || m+n != 0 || k != nil || s != "" || a != api.ErrRange || b != a || d != a || f != a || g != a {
			t.Error(c, a, b, d, f, g)
		}
	}
	for i, c := range []struct {
		out  []int
		cars int
	}{{[]int{0}, 3}, {[]int{1, 4}, 3}, {nil, 0}, {nil, 9}} {
		if w, e := Make(c.out, c.cars); w != 0 || e != api.ErrRange {
			t.Error(i, w, e)
		}
	}
}

func TestP33_4_P33_9(t *testing.T) {
	if s, e := Text(5, 4); s != "1010" || e != api.OK {
		t.Error(s, e)
	}
	for cars := 1; cars <= 8; cars++ {
		for w := range 1 << cars {
			s, _ := Text(w, cars)
			if v, n, e := Parse(s); v != w || n != cars || e != api.OK {
				t.Error(w, cars, s, v, n, e)
			}
		}
	}
	for _, s := range []string{"", "102", "000000000", " 1", "1\x00", "é", "-1", "\xff"} {
		if w, n, e := Parse(s); w != 0 || n != 0 || e != api.ErrForm {
			t.Errorf("%q %d %d %v", s, w, n, e)
		}
	}
}
