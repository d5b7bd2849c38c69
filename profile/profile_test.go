package profile

import (
	"slices"
	"testing"

	"tipstaff/api"
)

func TestP8_1(t *testing.T) {
	for _, c := range [][2]int{{0, 0}, {3, 6}, {20, 210}} {
		if n, e := Tri(c[0]); n != c[1] || e != api.OK {
			t.Error(c, n, e)
		}
	}
	for _, v := range []int{-1, 21, 1 << 62} {
		if n, e := Tri(v); n != 0 || e != api.ErrRange {
			t.Error(v, n, e)
		}
	}
	for i, c := range []struct {
		speed, left, limit, n int
		e                     api.Errno
	}{{0, 9, 3, 1, api.OK}, {1, 8, 3, 2, api.OK}, {2, 6, 3, 3, api.OK}, {3, 3, 3, 2, api.OK}, {1, 0, 3, 0, api.OK}, {3, 1, 3, 0, api.ErrState}, {0, 0, 1, 0, api.OK}, {3, 99, 3, 3, api.OK}, {4, 9, 3, 0, api.ErrRange}, {-1, 9, 3, 0, api.ErrRange}, {0, -1, 3, 0, api.ErrRange}, {0, 63001, 3, 0, api.ErrRange}, {0, 5, 0, 0, api.ErrRange}, {0, 5, 21, 0, api.ErrRange}} {
		if n, e := Next(c.speed, c.left, c.limit); n != c.n || e != c.e {
			t.Error(i, n, e)
		}
	}
}

// greedy does a ride as the document says it.
func greedy(n, limit int) []int {
	var l []int
	for speed := 0; n > 0; {
		best := 0
		for v := max(speed-1, 0); v <= min(speed+1, limit); v++ {
			if v*(v+1)/2 <= n {
				best = v
			}
		}
		speed = best
		n -= speed
		l = append(l, speed)
	}
	return l
}

func TestP8_2_P8_3_P8_5_P8_7(t *testing.T) {
	for limit := 1; limit <= 20; limit++ {
		for n := 0; n <= 900; n++ {
			want := greedy(n, limit)
			ticks, e := Travel(n, limit)
			l, f := Speeds(n, limit)
			peak, g := Peak(n, limit)
			if ticks != len(want) || !slices.Equal(l, want) || e+f+g != api.OK || n > 0 && (peak != slices.Max(want) || slices.Min(want) < 1 || want[len(want)-1] != 1) || n == 0 && peak != 0 {
				t.Fatal(limit, n, ticks, l, peak)
			}
			if n > 120 {
				continue
			}
			way := 0
			for i, v := range want {
				way += v
				if i > 0 && max(v-want[i-1], want[i-1]-v) > 1 {
					t.Fatal(want)
				}
				if i == len(want)-1 {
					v = 0
				}
				if w, s, e := Gone(n, limit, i+1); w != way || s != v || e != api.OK {
					t.Fatal(n, limit, i, w, s, e)
				}
			}
			if w, s, _ := Gone(n, limit, 1<<62); w != n || s != 0 {
				t.Fatal(w, s)
			}
			if w, s, _ := Gone(n, limit, 0); w != 0 || s != 0 {
				t.Fatal(w, s)
			}
		}
	}
	for _, c := range [][2]int{{63000, 1}, {63000, 20}, {62999, 7}, {31234, 13}, {5000, 3}} {
		if n, e := Travel(c[0], c[1]); n != len(greedy(c[0], c[1])) || e != api.OK {
			t.Error(c, n, e)
		}
	}
	if l, e := Speeds(1001, 1); l != nil || e != api.ErrLong {
		t.Error(l, e)
	}
	if l, e := Speeds(1000, 1); len(l) != 1000 || e != api.OK {
		t.Error(l, e)
	}
	for _, c := range [][3]int{{-1, 3, 0}, {63001, 3, 0}, {5, 0, 0}, {5, 21, 0}, {5, 3, -1}} {
		w, v, e := Gone(c[0], c[1], c[2])
		if e != api.ErrRange || w != 0 || v != 0 {
			t.Error(c, w, v, e)
		}
		if c[2] < 0 {
			continue
		}
		_, a := Travel(c[0], c[1])
		_, b := Speeds(c[0], c[1])
		_, d := Peak(c[0], c[1])
		if a != api.ErrRange || b != api.ErrRange || d != api.ErrRange {
			t.Error(c, a, b, d)
		}
	}
}

func TestP8_4_P8_8(t *testing.T) {
	for limit := 1; limit <= 20; limit++ {
		for ticks := range 120 {
			n, e := Reach(ticks, limit)
			a, _ := Travel(n, limit)
			b, _ := Travel(n+1, limit)
			if e != api.OK || a > ticks || b <= ticks {
				t.Fatal(ticks, limit, n, e)
			}
		}
	}
	for i, c := range []struct {
		ticks, limit, n int
		e               api.Errno
	}{{5, 3, 9, api.OK}, {4, 3, 6, api.OK}, {0, 3, 0, api.OK}, {-1, 3, 0, api.ErrRange}, {63001, 3, 0, api.ErrRange}, {63000, 3, 63000, api.OK}, {63000, 1, 63000, api.OK}, {62999, 1, 62999, api.OK}, {5, 0, 0, api.ErrRange}, {5, 21, 0, api.ErrRange}} {
		if n, e := Reach(c.ticks, c.limit); n != c.n || e != c.e {
			t.Error(i, n, e)
		}
	}
}

func TestP8_6_P8_9(t *testing.T) {
	for limit := 1; limit <= 20; limit++ {
		for n := range 2000 {
			a, _ := Travel(n, limit)
			b, _ := Travel(n+1, limit)
			if b < a {
				t.Fatal(n, limit)
			}
			if limit < 20 {
				if c, _ := Travel(n, limit+1); c > a {
					t.Fatal(n, limit)
				}
			}
		}
	}
	// The farthest that any ride gets in so many ticks, by trying all of them.
	for limit := 1; limit <= 4; limit++ {
		var far func(speed, ticks, way int) int
		far = func(speed, ticks, way int) int {
			if ticks == 0 {
				if speed > 1 {
					return 0
				}
				return way
			}
			best := 0
			for v := max(speed-1, 0); v <= min(speed+1, limit); v++ {
				best = max(best, far(v, ticks-1, way+v))
			}
			return best
		}
		for ticks := range 10 {
			if n, _ := Reach(ticks, limit); n != far(0, ticks, 0) {
				t.Error(limit, ticks, n, far(0, ticks, 0))
			}
		}
	}
}

func TestP8Bounds(t *testing.T) {
	for ticks, want := range map[int]api.Errno{-1: api.ErrRange, 0: api.OK, 1: api.OK} {
		if _, _, e := Gone(5, 2, ticks); e != want {
			t.Error(ticks, e)
		}
	}
	for v, want := range map[int]api.Errno{-1: api.ErrRange, 0: api.OK, 20: api.OK, 21: api.ErrRange} {
		if _, e := Tri(v); e != want {
			t.Error(v, e)
		}
	}
}
