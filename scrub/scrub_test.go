package scrub

import (
	"slices"
	"testing"

	"tipstaff/api"
)

var (
	gaps = []int{10, 20}
	base = api.Shown{Domain: 1, Service: true, At: 19, Panel: 3}
)

func with(change func(*api.Shown)) api.Shown {
	s := base
	change(&s)
	return s
}

// every combination of what is known of a car.
func every() []api.Shown {
	var l []api.Shown
	for d := 0; d <= 3; d++ {
		for bits := range 8 {
			for at := 0; at <= 30; at += 5 {
				for _, p := range []int{0, 1, 20} {
					l = append(l, api.Shown{Domain: d, Service: bits&1 > 0, Faulted: bits&2 > 0, Homing: bits&4 > 0, At: at, Panel: p})
				}
			}
		}
	}
	return l
}

func TestP32_1(t *testing.T) {
	for i, c := range []struct {
		gaps []int
		s    api.Shown
		e    api.Errno
	}{{gaps, base, api.OK}, {nil, api.Shown{Domain: 9}, api.ErrLong}, {[]int{0}, base, api.ErrRange}, {gaps, with(func(s *api.Shown) { s.Domain = 4 }), api.ErrRange}, {gaps, with(func(s *api.Shown) { s.Domain = -1 }), api.ErrRange}, {gaps, with(func(s *api.Shown) { s.At = 31 }), api.ErrRange}, {gaps, with(func(s *api.Shown) { s.At = -1 }), api.ErrRange}, {gaps, with(func(s *api.Shown) { s.Panel = 21 }), api.ErrRange}, {gaps, with(func(s *api.Shown) { s.Panel = -1 }), api.ErrRange}} {
		if e := Check(c.gaps, c.s); e != c.e {
			t.Error(i, e)
		}
		if c.e == api.OK {
			continue
		}
		x, a := Show(c.gaps, 1, c.s)
		l, b := All(c.gaps, 1, []api.Shown{base, c.s})
		same, d := Same(c.gaps, 1, base, c.s)
		if x != (api.Sight{}) || a != c.e || l != nil || b != c.e || same || d != c.e {
			t.Error(i, x, a, l, b, same, d)
		}
	}
	if l, e := All(nil, 0, nil); l != nil || e != api.ErrLong {
		t.Error(l, e)
	}
	for _, d := range []int{0, 4} {
		_, a := Show(gaps, d, base)
		_, b := All(gaps, d, nil)
		_, c := Same(gaps, d, base, base)
		if a != api.ErrRange || b != a || c != a {
			t.Error(d, a, b, c)
		}
	}
}

func TestP32_2_P32_4_P32_5_P32_6_P32_8(t *testing.T) {
	for i, c := range []struct {
		domain int
		change func(*api.Shown)
		want   api.Sight
	}{
		{1, func(s *api.Shown) {}, api.Sight{Floor: 1, Panel: 3}}, {2, func(s *api.Shown) {}, api.Sight{Floor: -1}}, {1, func(s *api.Shown) { s.Domain = 0 }, api.Sight{Floor: -1}}, {1, func(s *api.Shown) { s.Service, s.Faulted = false, true }, api.Sight{Floor: -1, Out: true}}, {1, func(s *api.Shown) { s.Faulted, s.Homing = true, true }, api.Sight{Floor: -1, Panel: 3, Out: true}}, {1, func(s *api.Shown) { s.Homing = true }, api.Sight{Floor: -1}}, {1, func(s *api.Shown) { s.At = 20 }, api.Sight{Floor: 1, Panel: 3}}, {1, func(s *api.Shown) { s.At = 21 }, api.Sight{Floor: 2, Panel: 3}},
	} {
		if s, e := Show(gaps, c.domain, with(c.change)); s != c.want || e != api.OK {
			t.Error(i, s, e)
		}
	}
	all := every()
	for d := 1; d <= 3; d++ {
		l, e := All(gaps, d, all)
		if e != api.OK || len(l) != len(all) {
			t.Fatal(e)
		}
		for i, s := range l {
			one, _ := Show(gaps, d, all[i])
			_, f := Text(s)
			if one != s || f != api.OK || all[i].Domain != d && s != (api.Sight{Floor: -1}) || s.Floor >= 0 && (all[i].Domain != d || !all[i].Service || all[i].Faulted || all[i].Homing) {
				t.Error(d, all[i], s, f)
			}
			same, g := Same(gaps, d, all[i], all[0])
			if same != (s == l[0]) || g != api.OK || (len(Differ(s, l[0])) == 0) != same || !slices.Equal(Differ(s, l[0]), Differ(l[0], s)) {
				t.Error(d, all[i], same)
			}
		}
	}
	if l, e := All(gaps, 1, nil); len(l) != 0 || e != api.OK {
		t.Error(l, e)
	}
	a, b := api.Sight{Floor: 1, Panel: 3}, api.Sight{Floor: 2, Panel: 4, Out: true}
	if !slices.Equal(Differ(a, b), []int{1, 2, 3}) || len(Differ(a, a)) != 0 || !slices.Equal(Differ(api.Sight{Floor: -1}, api.Sight{Floor: -1, Out: true}), []int{3}) {
		t.Error(Differ(a, b))
	}
}

func TestP32_3_P32_7(t *testing.T) {
	n := 0
	for floor := -2; floor <= 64; floor++ {
		for panel := -1; panel <= 21; panel++ {
			for _, out := range []bool{false, true} {
				s := api.Sight{Floor: floor, Panel: panel, Out: out}
				ok := panel >= 0 && panel <= 20 && (floor == -1 && (out || panel == 0) || floor >= 0 && floor <= 63 && !out)
				x, e := Text(s)
				if ok != (e == api.OK) || !ok && (x != "" || e != api.ErrRange) {
					t.Error(s, x, e)
				}
				if !ok {
					continue
				}
				n++
				if back, e := Parse(x); back != s || e != api.OK {
					t.Error(s, x, back, e)
				}
			}
		}
	}
	if n != 64*21+22 {
		t.Error(n)
	}
	for want, s := range map[string]api.Sight{"1:3": {Floor: 1, Panel: 3}, "out:3": {Floor: -1, Panel: 3, Out: true}, "-": {Floor: -1}, "out": {Floor: -1, Out: true}, "63:20": {Floor: 63, Panel: 20}, "0:0": {}} {
		if x, _ := Text(s); x != want {
			t.Error(s, x)
		}
	}
	for _, s := range []string{"", "out:0", "01:3", "64:0", "-1:0", "1:21", "1", "1:", ":1", "1:03", "out:", "out:21", "-:0", "-:1", "1:3:4", "1:3 ", "+1:3", "1:+3", "\u0661:3", "\u0661", "9999999999999999999:1", "out:1:1", "Out", "1:-", "\xff:1"} {
		if x, e := Parse(s); x != (api.Sight{}) || e != api.ErrForm {
			t.Errorf("%q: %v %v", s, x, e)
		}
	}
}
