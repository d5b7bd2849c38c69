package mode

import (
	"slices"
	"testing"

	"tipstaff/api"
)

func text(m api.Modes) string {
	s, e := Text(m)
	if e != api.OK {
		return e.Error()
	}
	return s
}

func empty(m api.Modes) bool {
	return m.Cars == 0 && m.Of[0] == nil && m.Of[1] == nil && m.Of[2] == nil
}

func parse(t *testing.T, s string) api.Modes {
	m, e := Parse(s)
	if e != api.OK {
		t.Fatal(s, e)
	}
	return m
}

func TestP23_1(t *testing.T) {
	for _, n := range []int{0, 9, -1} {
		if m, e := New(n); !empty(m) || e != api.ErrRange {
			t.Error(n, m, e)
		}
	}
	if m, e := New(8); text(m) != "nnnnnnnn/nnnnnnnn/nnnnnnnn" || e != api.OK {
		t.Error(m, e)
	}
	for i, c := range []struct {
		m api.Modes
		e api.Errno
	}{{api.Modes{}, api.ErrRange}, {api.Modes{Cars: 9}, api.ErrRange}, {api.Modes{Cars: 1, Of: [3][]int{{9}, {0}, {}}}, api.ErrForm}, {api.Modes{Cars: 1, Of: [3][]int{{0}, {0}, {4}}}, api.ErrKind}, {api.Modes{Cars: 1, Of: [3][]int{{-1}, {0}, {0}}}, api.ErrKind}} {
		_, a := Get(c.m, 0, 0)
		_, b := Set(c.m, 0, 0, 9)
		_, d := Count(c.m, 9)
		_, f := Text(c.m)
		if got := []api.Errno{Check(c.m), a, b, d, f}; slices.ContainsFunc(got, func(e api.Errno) bool { return e != c.e }) {
			t.Error(i, got)
		}
	}
}

func TestP23_2_P23_5_P23_6(t *testing.T) {
	m, _ := New(2)
	m, _ = Set(m, 2, 1, api.Own)
	m, _ = Set(m, 2, 2, api.Stand)
	m, e := Set(m, 3, 2, api.Recall)
	if text(m) != "nn/os/nr" || e != api.OK {
		t.Error(text(m), e)
	}
	for _, c := range [][3]int{{2, 2, 2}, {3, 1, 0}, {2, 1, 1}, {3, 2, 3}, {1, 1, 0}} {
		if n, e := Get(m, c[0], c[1]); n != c[2] || e != api.OK {
			t.Error(c, n, e)
		}
	}
	for d := 1; d <= 3; d++ {
		for car := 1; car <= 2; car++ {
			for mode := range 4 {
				s, _ := Set(m, d, car, mode)
				for d2 := 1; d2 <= 3; d2++ {
					for car2 := 1; car2 <= 2; car2++ {
						a, _ := Get(s, d2, car2)
						b, _ := Get(m, d2, car2)
						if d2 == d && car2 == car && a != mode || (d2 != d || car2 != car) && a != b {
							t.Error(d, car, mode, s)
						}
					}
				}
				x, _ := Set(s, 1, 1, api.Stand)
				y, _ := Set(m, 1, 1, api.Stand)
				y, _ = Set(y, d, car, mode)
				if d+car > 2 && text(x) != text(y) {
					t.Error(x, y)
				}
			}
		}
	}
	if text(m) != "nn/os/nr" {
		t.Error("changed")
	}
	for i, c := range []struct {
		d, car, mode int
		e            api.Errno
	}{{0, 1, 0, api.ErrRange}, {4, 1, 0, api.ErrRange}, {1, 0, 0, api.ErrRange}, {1, 3, 9, api.ErrRange}, {1, 1, 4, api.ErrKind}, {1, 1, -1, api.ErrKind}} {
		s, e := Set(m, c.d, c.car, c.mode)
		n, f := Get(m, c.d, c.car)
		if !empty(s) || e != c.e || c.e == api.ErrRange && (n != 0 || f != c.e) {
			t.Error(i, s, e, n, f)
		}
	}
}

func TestP23_3_P23_7_P23_9(t *testing.T) {
	for i, c := range []struct {
		mode, trip int
		want       []int
		e          api.Errno
	}{{0, 0, []int{1, 2}, api.OK}, {0, 1, []int{2, 1}, api.OK}, {1, 0, []int{2}, api.OK}, {1, 5, []int{2}, api.OK}, {2, 3, nil, api.OK}, {3, 15, []int{3}, api.OK}, {4, 99, nil, api.ErrKind}, {-1, 0, nil, api.ErrKind}, {0, 16, nil, api.ErrRange}, {0, -1, nil, api.ErrRange}} {
		l, e := Allows(c.mode, c.trip)
		n, f := First(c.mode, c.trip, []int{3, 2, 1})
		want := 0
		if len(c.want) > 0 {
			want = c.want[0]
		}
		if !slices.Equal(l, c.want) || e != c.e || n != want || f != c.e {
			t.Error(i, l, e, n, f)
		}
	}
	for i, c := range []struct {
		mode, trip int
		possible   []int
		want       int
	}{{0, 1, []int{1, 3}, 1}, {1, 0, []int{1}, 0}, {0, 0, []int{2}, 2}, {0, 0, nil, 0}, {3, 0, []int{9, 3}, 3}} {
		if n, e := First(c.mode, c.trip, c.possible); n != c.want || e != api.OK {
			t.Error(i, n, e)
		}
	}
	m := parse(t, "nn/os/nr")
	if a, e := Count(m, api.Normal); !slices.Equal(a, []int{2, 0, 1}) || e != api.OK {
		t.Error(a, e)
	}
	if a, e := Count(m, api.Recall); !slices.Equal(a, []int{0, 0, 1}) || e != api.OK {
		t.Error(a, e)
	}
	if a, e := Count(m, 4); a != nil || e != api.ErrKind {
		t.Error(a, e)
	}
	sum := make([]int, 3)
	for mode := range 4 {
		a, _ := Count(m, mode)
		for d := range sum {
			sum[d] += a[d]
		}
	}
	if !slices.Equal(sum, []int{2, 2, 2}) {
		t.Error(sum)
	}
}

func TestP23_4_P23_8(t *testing.T) {
	for _, s := range []string{"n/n/n", "nn/os/nr", "rrrrrrrr/ssssssss/oooooooo"} {
		if text(parse(t, s)) != s {
			t.Error(s)
		}
	}
	for _, s := range []string{"n/nn/n", "x/n/n", "//", "nnnnnnnnn/nnnnnnnnn/nnnnnnnnn", "", "n/n", "n/n/n/", "n/n/n/n", "N/n/n", "n/n/né", "n/n/\xff", " n/n/n"} {
		if m, e := Parse(s); !empty(m) || e != api.ErrForm {
			t.Error(s, m, e)
		}
	}
}

func TestP23Bounds(t *testing.T) {
	for _, n := range []int{1, 8} {
		if m, e := New(n); m.Cars != n || e != api.OK {
			t.Error(n, m, e)
		}
	}
	for trip := range 16 {
		l, e := Allows(api.Normal, trip)
		if want := []int{1 + trip%2, 2 - trip%2}; !slices.Equal(l, want) || e != api.OK {
			t.Error(trip, l, e)
		}
	}
}
