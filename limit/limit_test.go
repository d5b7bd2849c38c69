package limit

import (
	"slices"
	"testing"

	"tipstaff/api"
)

const most = 1<<63 - 1

func at(pos, speed int) api.Moving  { return api.Moving{Pos: pos, Speed: speed} }
func run(pos, speed int) api.Moving { return api.Moving{Pos: pos, Speed: speed, Motor: true} }
func held(pos, speed, panel int) api.Moving {
	return api.Moving{Pos: pos, Speed: speed, Brake: true, Panel: panel}
}

func TestP14_1(t *testing.T) {
	for i, c := range []struct {
		m api.Moving
		e api.Errno
	}{{at(-most-1, 1000), api.OK}, {at(0, 1001), api.ErrRange}, {at(0, -1), api.ErrRange}, {held(0, 0, 20), api.OK}, {held(0, 0, 21), api.ErrRange}, {held(0, 0, -1), api.ErrRange}} {
		if e := Check(c.m); e != c.e {
			t.Error(i, e)
		}
	}
	for i, c := range []struct {
		m    api.Moving
		want []int
	}{{run(5, 2), nil}, {run(5, 4), []int{1}}, {held(21, 1, 0), []int{2, 3, 4}}, {held(5, 0, 3), nil}, {api.Moving{Pos: 5, Motor: true, Panel: 3}, []int{5}}, {run(20, 3), nil}, {run(-1, 3), []int{2}}, {at(0, 1), []int{4}}} {
		if l, e := Causes(c.m, 20, 3); !slices.Equal(l, c.want) || e != api.OK {
			t.Error(i, l, e)
		}
	}
	for _, c := range [][2]int{{-1, 3}, {63001, 3}, {20, 0}, {20, 21}} {
		_, a := Causes(at(0, 0), c[0], c[1])
		_, b := Watch(nil, c[0], c[1])
		_, d := Counts(nil, c[0], c[1])
		if a != api.ErrRange || b != api.ErrRange || d != api.ErrRange {
			t.Error(c, a, b, d)
		}
	}
	long := make([]api.Moving, 10001)
	long[0].Speed = -1
	_, a := Watch(long, -1, 0)
	_, b := Counts(long, -1, 0)
	_, d := Jumps(long)
	_, f := Stops(long)
	if a != api.ErrLong || b != api.ErrLong || d != api.ErrLong || f != api.ErrLong {
		t.Error(a, b, d, f)
	}
	_, d = Jumps(long[:10000])
	_, f = Stops(long[:10000])
	if n, e := Watch(long[1:], 20, 3); n != (api.Trip{}) || e != api.OK || d != api.ErrRange || f != api.ErrRange {
		t.Error(n, e, d, f)
	}
}

func TestP14_2_P14_4_P14_5_P14_6_P14_7(t *testing.T) {
	for i, c := range []struct {
		l    []api.Moving
		want api.Trip
	}{{[]api.Moving{held(0, 0, 0), run(1, 1), run(5, 4), held(21, 0, 0)}, api.Trip{Cause: 1, At: 2}}, {[]api.Moving{held(0, 0, 0)}, api.Trip{}}, {nil, api.Trip{}}, {[]api.Moving{held(21, 1, 0)}, api.Trip{Cause: 2, At: 0}}} {
		if w, e := Watch(c.l, 20, 3); w != c.want || e != api.OK {
			t.Error(i, w, e)
		}
	}
	l := []api.Moving{run(21, 4), held(5, 0, 0), held(-1, 1, 0), {Pos: 2, Motor: true, Panel: 1}, at(3, 2)}
	if n, e := Counts(l, 20, 3); !slices.Equal(n, []int{1, 2, 1, 2, 1}) || e != api.OK {
		t.Error(n, e)
	}
	if n, e := Counts(l[:3], 20, 3); !slices.Equal(n, []int{1, 2, 1, 1, 0}) || e != api.OK {
		t.Error(n, e)
	}
	if n, e := Counts(nil, 20, 3); !slices.Equal(n, make([]int, 5)) || e != api.OK {
		t.Error(n, e)
	}
	for i, m := range l {
		small, _ := Causes(m, 20, 3)
		large, _ := Causes(m, 21, 4)
		for _, c := range large {
			if !slices.Contains(small, c) {
				t.Error(m, small, large)
			}
		}
		w, _ := Watch(l[i:], 20, 3)
		for j := i; j < len(l); j++ {
			c, _ := Causes(l[j], 20, 3)
			if len(c) > 0 {
				if w.At != j-i || w.Cause != c[0] {
					t.Error(i, w, c)
				}
				break
			}
		}
		if x, _ := Watch(l[i:i+1], 20, 3); x.Cause != 0 && w != x {
			t.Error(i, x, w)
		}
	}
}

func TestP14_3(t *testing.T) {
	for i, c := range []struct {
		l           []api.Moving
		jump, stops []int
	}{{[]api.Moving{at(0, 0), at(1, 1), at(3, 2), at(3, 0)}, nil, []int{3}}, {[]api.Moving{at(0, 0), at(2, 1)}, []int{1}, nil}, {[]api.Moving{at(5, 2), at(4, 1)}, nil, nil}, {[]api.Moving{at(0, 1), at(4, 4)}, []int{1}, nil}, {[]api.Moving{at(0, 0), at(1, 1), at(1, 0), at(1, 0), at(2, 1), at(2, 0)}, nil, []int{2, 5}}, {[]api.Moving{at(-most-1, 0), at(most, 1), at(most, 0)}, []int{1}, []int{2}}, {nil, nil, nil}, {[]api.Moving{at(5, 0)}, nil, nil}} {
		j, e := Jumps(c.l)
		s, f := Stops(c.l)
		if !slices.Equal(j, c.jump) || e != api.OK || !slices.Equal(s, c.stops) || f != api.OK {
			t.Error(i, j, e, s, f)
		}
	}
}

func TestP14Bounds(t *testing.T) {
	for _, c := range [][3]int{{0, 1, 0}, {63000, 1, 0}, {0, 20, 0}, {-1, 1, 2}, {63001, 1, 2}, {0, 0, 2}, {0, 21, 2}} {
		_, a := Causes(at(0, 0), c[0], c[1])
		w, b := Watch([]api.Moving{at(0, 0)}, c[0], c[1])
		if int(a) != c[2] || int(b) != c[2] || w != (api.Trip{}) {
			t.Error(c, a, b)
		}
	}
	if l, e := Jumps([]api.Moving{at(0, 1), at(3, 3), at(5, 2), at(5, 0), at(7, 2)}); !slices.Equal(l, []int{1, 4}) || e != api.OK {
		t.Error(l, e)
	}
	if w, _ := Watch([]api.Moving{at(0, 1)}, 20, 3); w != (api.Trip{Cause: api.Runaway}) {
		t.Error(w)
	}
}
