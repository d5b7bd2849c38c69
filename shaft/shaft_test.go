package shaft

import (
	"slices"
	"testing"

	"tipstaff/api"
)

var gaps = []int{10, 4, 6}

func many(n, gap int) []int {
	l := make([]int, n)
	for i := range l {
		l[i] = gap
	}
	return l
}

func TestP7_1_P7_4(t *testing.T) {
	for i, c := range []struct {
		g  []int
		e  api.Errno
		at int
	}{{nil, api.ErrLong, 0}, {many(64, 0), api.ErrLong, 0}, {many(63, 1000), api.OK, 0}, {[]int{10, 0}, api.ErrRange, 1}, {[]int{10, 1001, 5}, api.ErrRange, 1}, {[]int{-1}, api.ErrRange, 0}, {gaps, api.OK, 0}} {
		if e, at := Check(c.g); e != c.e || at != c.at {
			t.Error(i, e, at)
		}
		if c.e == api.OK {
			continue
		}
		_, a := Positions(c.g)
		_, b := Height(c.g)
		_, d := Nearest(c.g, -1)
		_, f := Level(c.g, -1, -1, -1)
		_, g := At(c.g, -1, -1)
		_, h := Distance(c.g, -1, -1)
		_, j := Between(c.g, -1, -1)
		if got := []api.Errno{a, b, d, f, g, h, j}; slices.ContainsFunc(got, func(e api.Errno) bool { return e != c.e }) {
			t.Error(i, got)
		}
	}
	p, _ := Positions(gaps)
	if !slices.Equal(p, []int{0, 10, 14, 20}) {
		t.Error(p)
	}
	if h, e := Height(many(63, 1000)); h != 63000 || e != api.OK {
		t.Error(h, e)
	}
	if h, _ := Height(gaps); h != 20 || p[3] != h || !slices.IsSorted(p) {
		t.Error(h)
	}
	p[0] = 9
	if q, _ := Positions(gaps); q[0] != 0 {
		t.Error(q)
	}
}

func TestP7_2_P7_5_P7_6(t *testing.T) {
	p := []int{0, 10, 14, 20}
	for pos := 0; pos <= 20; pos++ {
		near := 0
		for f := range p {
			if max(p[f]-pos, pos-p[f]) < max(p[near]-pos, pos-p[near]) {
				near = f
			}
		}
		if n, e := Nearest(gaps, pos); n != near || e != api.OK {
			t.Error(pos, n, e)
		}
		for tol := 0; tol <= 20; tol++ {
			for f := range p {
				if l, e := Level(gaps, pos, f, tol); l != (max(p[f]-pos, pos-p[f]) <= tol) || e != api.OK {
					t.Error(pos, f, tol, l, e)
				}
			}
			n, e := At(gaps, pos, tol)
			if max(p[near]-pos, pos-p[near]) <= tol && (n != near || e != api.OK) || max(p[near]-pos, pos-p[near]) > tol && (n != 0 || e != api.ErrMissing) {
				t.Error(pos, tol, n, e)
			}
		}
	}
	for _, c := range [][3]int{{21, 0, 0}, {-1, 0, 0}, {5, 4, 0}, {5, -1, 0}, {5, 0, -1}, {5, 0, 21}, {1 << 62, 0, 0}, {-1 << 63, 0, 0}, {5, 1 << 62, 0}} {
		if _, e := Level(gaps, c[0], c[1], c[2]); e != api.ErrRange {
			t.Error(c, e)
		}
	}
	for _, c := range [][2]int{{21, 0}, {-1, 0}, {5, -1}, {5, 21}} {
		if n, e := At(gaps, c[0], c[1]); n != 0 || e != api.ErrRange {
			t.Error(c, n, e)
		}
	}
	if n, e := Nearest(gaps, 21); n != 0 || e != api.ErrRange {
		t.Error(n, e)
	}
}

func TestP7_3_P7_7(t *testing.T) {
	p := []int{0, 10, 14, 20}
	for a := range p {
		for b := range p {
			if d, e := Distance(gaps, a, b); d != max(p[a]-p[b], p[b]-p[a]) || e != api.OK {
				t.Error(a, b, d, e)
			}
		}
	}
	for _, c := range [][2]int{{-1, 0}, {0, 4}, {4, 0}} {
		if d, e := Distance(gaps, c[0], c[1]); d != 0 || e != api.ErrRange {
			t.Error(c, d, e)
		}
	}
	for low := 0; low <= 20; low++ {
		for high := low; high <= 20; high++ {
			var want []int
			for f, x := range p {
				if x >= low && x <= high {
					want = append(want, f)
				}
			}
			if l, e := Between(gaps, low, high); !slices.Equal(l, want) || e != api.OK {
				t.Error(low, high, l, e)
			}
		}
	}
	for _, c := range [][2]int{{5, 4}, {-1, 4}, {0, 21}} {
		if l, e := Between(gaps, c[0], c[1]); l != nil || e != api.ErrRange {
			t.Error(c, l, e)
		}
	}
}

func TestP7Bounds(t *testing.T) {
	for gap, want := range map[int]api.Errno{0: api.ErrRange, 1: api.OK, 1000: api.OK, 1001: api.ErrRange} {
		if e, _ := Check([]int{gap}); e != want {
			t.Error(gap, e)
		}
		if h, e := Height([]int{gap}); e != want || e == api.OK && h != gap {
			t.Error(gap, h, e)
		}
	}
}
