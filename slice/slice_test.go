package slice

import (
	"slices"
	"testing"

	"tipstaff/api"
)

var rota = [][]int{{1, 2, 3}, {1, 0, 1}}

func TestP25_1(t *testing.T) {
	for i, c := range []struct {
		rota [][]int
		e    api.Errno
		car  int
	}{{rota, api.OK, 0}, {nil, api.ErrRange, 0}, {make([][]int, 9), api.ErrRange, 0}, {[][]int{{}}, api.ErrRange, 0}, {[][]int{make([]int, 25)}, api.ErrRange, 0}, {[][]int{make([]int, 24)}, api.OK, 0}, {[][]int{{1, 2}, {1}}, api.ErrForm, 2}, {[][]int{{1, 4}}, api.ErrRange, 1}, {[][]int{{1, -1}, {1}}, api.ErrRange, 1}, {[][]int{{1}, {9, 9}}, api.ErrForm, 2}} {
		if e, car := Check(c.rota); e != c.e || car != c.car {
			t.Error(i, e, car)
		}
		if c.e == api.OK {
			continue
		}
		_, a := Domain(c.rota, 0, 0, -1)
		_, b := Cars(c.rota, -1, 9)
		_, d := Slots(c.rota, 0, 9)
		_, f := Next(c.rota, 0, 0, 9, -1)
		_, g := Wait(c.rota, 0, 9)
		_, h := Share(c.rota)
		if got := []api.Errno{a, b, d, f, g, h}; slices.ContainsFunc(got, func(e api.Errno) bool { return e != c.e }) {
			t.Error(i, got)
		}
	}
	for _, c := range [][4]int{{0, 1, 1, 0}, {2000001, 1, 1, 0}, {10, 0, 1, 0}, {10, 3, 1, 0}, {10, 1, 1, -1}, {10, 1, 1, 1<<40 + 1}, {10, 1, 4, 0}, {10, 1, -1, 0}} {
		if n, e := Next(rota, c[0], c[1], c[2], c[3]); n != 0 || e != api.ErrRange {
			t.Error(c, n, e)
		}
		if n, e := Domain(rota, c[0], c[1], c[3]); c[2] == 1 && (n != 0 || e != api.ErrRange) {
			t.Error(c, n, e)
		}
		if s, at, e := Slot(c[3], c[0]); c[1] == 1 && c[2] == 1 && (s+at != 0 || e != api.ErrRange) {
			t.Error(c, s, at, e)
		}
	}
	for _, c := range [][2]int{{-1, 0}, {1<<40 + 1, 0}, {0, 4}, {0, -1}} {
		if l, e := Cars(rota, c[0], c[1]); l != nil || e != api.ErrRange {
			t.Error(c, l, e)
		}
	}
	for _, c := range [][2]int{{0, 1}, {3, 1}, {1, 4}, {1, -1}} {
		l, e := Slots(rota, c[0], c[1])
		n, f := Wait(rota, c[0], c[1])
		if l != nil || e != api.ErrRange || n != 0 || f != api.ErrRange {
			t.Error(c, l, e, n, f)
		}
	}
}

func TestP25_2_P25_5_P25_6_P25_8(t *testing.T) {
	for _, c := range [][4]int{{0, 10, 0, 0}, {29, 10, 2, 9}, {30, 10, 3, 0}, {1 << 40, 1, 1 << 40, 0}} {
		if s, at, e := Slot(c[0], c[1]); s != c[2] || at != c[3] || e != api.OK {
			t.Error(c, s, at, e)
		}
	}
	for tick := range 100 {
		for car := 1; car <= 2; car++ {
			d, e := Domain(rota, 10, car, tick)
			if d != rota[car-1][tick/10%3] || e != api.OK {
				t.Error(tick, car, d, e)
			}
			if same, _ := Domain(rota, 10, car, tick+30); same != d {
				t.Error(tick, car)
			}
			found := 0
			for d := range 4 {
				cars, _ := Cars(rota, tick/10, d)
				in, _ := Slots(rota, car, d)
				if slices.Contains(cars, car) != slices.Contains(in, tick/10%3) || !slices.IsSorted(cars) {
					t.Error(tick, car, d)
				}
				if slices.Contains(cars, car) {
					found++
				}
			}
			if found != 1 {
				t.Error(tick, car, found)
			}
		}
	}
	if l, e := Slots(rota, 2, 1); !slices.Equal(l, []int{0, 2}) || e != api.OK {
		t.Error(l, e)
	}
	if l, e := Cars(rota, 4, 0); !slices.Equal(l, []int{2}) || e != api.OK {
		t.Error(l, e)
	}
	if l, e := Cars(rota, 0, 3); len(l) != 0 || e != api.OK {
		t.Error(l, e)
	}
	rota := [][]int{{1}}
	if d, e := Domain(rota, 2000000, 1, 1<<40); d != 1 || e != api.OK {
		t.Error(d, e)
	}
}

func TestP25_3_P25_7(t *testing.T) {
	for i, c := range []struct {
		car, domain, tick, n int
		e                    api.Errno
	}{{1, 2, 10, 10, api.OK}, {1, 2, 11, 40, api.OK}, {2, 1, 1, 20, api.OK}, {2, 3, 1, 0, api.ErrMissing}, {1, 1, 0, 0, api.OK}, {1, 3, 1 << 40, 1099511627780, api.OK}} {
		if n, e := Next(rota, 10, c.car, c.domain, c.tick); n != c.n || e != c.e {
			t.Error(i, n, e)
		}
	}
	for tick := range 90 {
		for car := 1; car <= 2; car++ {
			for d := range 4 {
				n, e := Next(rota, 10, car, d, tick)
				w, f := Wait(rota, car, d)
				if e != f {
					t.Error(car, d, e, f)
				}
				if e != api.OK {
					continue
				}
				if at, _ := Domain(rota, 10, car, n); at != d || n < tick || n%10 != 0 || n-tick >= w*10 {
					t.Error(tick, car, d, n, w)
				}
				for before := tick; before < n; before++ {
					if at, _ := Domain(rota, 10, car, before); at == d && before%10 == 0 {
						t.Error(tick, car, d, n)
					}
				}
			}
		}
	}
}

func TestP25_4(t *testing.T) {
	for i, c := range []struct {
		rota        [][]int
		car, domain int
		n           int
		e           api.Errno
	}{{rota, 2, 1, 2, api.OK}, {rota, 1, 3, 3, api.OK}, {rota, 2, 3, 0, api.ErrMissing}, {[][]int{{1, 1, 2, 2, 1, 2, 2}}, 1, 1, 3, api.OK}, {[][]int{{2, 2, 1, 1, 2, 2}}, 1, 1, 5, api.OK}, {[][]int{{1}}, 1, 1, 1, api.OK}} {
		if n, e := Wait(c.rota, c.car, c.domain); n != c.n || e != c.e {
			t.Error(i, n, e)
		}
	}
	if l, e := Share(rota); !slices.Equal(l, []int{1, 3, 1, 1}) || e != api.OK {
		t.Error(l, e)
	}
}

func TestP25Bounds(t *testing.T) {
	eight := [][]int{{0}, {0}, {0}, {0}, {0}, {0}, {0}, {3}}
	if l, e := Cars(eight, 1<<40, 3); !slices.Equal(l, []int{8}) || e != api.OK {
		t.Error(l, e)
	}
}
