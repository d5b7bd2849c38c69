package sensor

import (
	"slices"
	"testing"

	"tipstaff/api"
)

var (
	gaps = []int{10, 4, 6}
	x    = api.Reading{Floor: -1}
)

func at(floor, zone int) api.Reading { return api.Reading{Ok: true, Floor: floor, Zone: zone} }

func TestP12_1_P12_6(t *testing.T) {
	for i, c := range []struct {
		r api.Reading
		e api.Errno
	}{{x, api.OK}, {at(-1, 1), api.OK}, {at(63, 0), api.OK}, {at(64, 0), api.ErrRange}, {at(-2, 0), api.ErrRange}, {at(0, 2), api.ErrRange}, {at(0, -1), api.ErrRange}, {api.Reading{}, api.ErrForm}, {api.Reading{Floor: -1, Zone: 1}, api.ErrForm}, {api.Reading{Floor: 99}, api.ErrRange}} {
		if e := Check(c.r); e != c.e {
			t.Error(i, e)
		}
	}
	for i, c := range []struct {
		pos, tol int
		works    bool
		r        api.Reading
		e        api.Errno
	}{{10, 1, true, at(1, 0), api.OK}, {11, 1, true, at(1, 1), api.OK}, {12, 1, true, at(-1, 1), api.OK}, {21, 1, true, api.Reading{}, api.ErrRange}, {10, 1, false, x, api.OK}, {-1, 1, false, api.Reading{}, api.ErrRange}, {10, 21, false, api.Reading{}, api.ErrRange}, {10, -1, true, api.Reading{}, api.ErrRange}, {0, 0, true, at(0, 0), api.OK}, {20, 0, true, at(3, 1), api.OK}, {5, 1, true, at(-1, 0), api.OK}} {
		if r, e := Read(gaps, c.pos, c.tol, c.works); r != c.r || e != c.e {
			t.Error(i, r, e)
		}
	}
	if r, e := Read(nil, -1, -1, true); r != (api.Reading{}) || e != api.ErrLong {
		t.Error(r, e)
	}
	for f, p := range []int{0, 10, 14, 20} {
		if r, e := Read(gaps, p, 0, true); r.Floor != f || !r.Ok || e != api.OK {
			t.Error(f, r, e)
		}
	}
}

func TestP12_2_P12_4_P12_5(t *testing.T) {
	for i, c := range []struct {
		a, b, c, v api.Reading
		odd        int
	}{{at(1, 0), at(1, 0), x, at(1, 0), 3}, {at(1, 0), at(2, 1), at(1, 0), at(1, 0), 2}, {at(1, 0), x, x, at(1, 0), 0}, {at(1, 0), at(2, 1), x, x, 0}, {x, x, x, x, 0}, {at(1, 0), at(2, 1), at(3, 1), x, 0}, {at(2, 1), at(1, 0), at(1, 0), at(1, 0), 1}, {at(1, 0), at(1, 0), at(1, 0), at(1, 0), 0}, {x, x, at(1, 0), at(1, 0), 0}} {
		v, e := Vote(c.a, c.b, c.c)
		n, f := Odd(c.a, c.b, c.c)
		if v != c.v || e != api.OK || n != c.odd || f != api.OK {
			t.Error(i, v, e, n, f)
		}
	}
	bad := api.Reading{Floor: 5}
	worse := at(64, 0)
	for i, c := range []struct {
		a, b, c api.Reading
		e       api.Errno
	}{{bad, worse, x, api.ErrForm}, {x, worse, bad, api.ErrRange}, {x, x, bad, api.ErrForm}} {
		v, e := Vote(c.a, c.b, c.c)
		n, f := Odd(c.a, c.b, c.c)
		if v != (api.Reading{}) || e != c.e || n != 0 || f != c.e {
			t.Error(i, v, e, n, f)
		}
	}
	all := []api.Reading{x, at(1, 0), at(1, 1), at(2, 0), at(-1, 0)}
	for _, a := range all {
		for _, b := range all {
			for _, c := range all {
				v, _ := Vote(a, b, c)
				w, _ := Vote(c, a, b)
				u, _ := Vote(b, a, c)
				if v != w || v != u || Check(v) != api.OK {
					t.Error(a, b, c, v, w, u)
				}
			}
			if v, _ := Vote(a, b, a); a.Ok && v != a {
				t.Error(a, b, v)
			}
		}
	}
}

func TestP12_3_P12_7(t *testing.T) {
	e := func(what, car int) api.Entry { return api.Entry{Kind: api.AtCar, What: what, Car: car} }
	l := []api.Entry{e(api.MotorFail, 1), e(api.Load, 1), e(api.SensorFail, 2), e(api.SensorFail, 1), {Kind: api.AtPort, Car: 1, What: 5}, e(7, 1), e(2, 3), e(99, 3), {Kind: 9, Car: 3, What: 5}}
	for _, c := range []struct {
		car   int
		want  []int
		works bool
		e     api.Errno
	}{{1, []int{3, 5}, false, api.OK}, {2, []int{5}, false, api.OK}, {3, nil, true, api.OK}, {9, nil, false, api.ErrRange}, {0, nil, false, api.ErrRange}} {
		f, e := Faults(l, c.car)
		w, g := Works(l, c.car)
		if !slices.Equal(f, c.want) || e != c.e || w != c.works || g != c.e {
			t.Error(c, f, e, w, g)
		}
	}
	a, _ := Faults(l[:2], 1)
	b, _ := Faults(l[2:], 1)
	if f, _ := Faults(l, 1); !slices.Equal(append(a, b...), f) {
		t.Error(f)
	}
}

func TestP12Bounds(t *testing.T) {
	l := []api.Entry{{Kind: api.AtCar, Car: 8, What: api.DoorFail}, {Kind: api.AtCar, Car: 8, What: api.MotorFail}, {Kind: api.AtCar, Car: 8, What: api.Obstruct}}
	if f, e := Faults(l, 8); !slices.Equal(f, []int{6, 3}) || e != api.OK {
		t.Error(f, e)
	}
}
