package mask

import (
	"slices"
	"testing"

	"tipstaff/api"
)

var sets = []uint64{0, 1, 9, 17, 143, 1 << 63, ^uint64(0), 0xaaaaaaaaaaaaaaaa, 0x5555555555555555, 0xf0f0123400000001, 6}

func TestP2_1(t *testing.T) {
	for _, m := range sets {
		n := 0
		var l []int
		for f := -3; f < 70; f++ {
			want := f >= 0 && f < 64 && m&(1<<uint(f)) != 0
			if Has(m, f) != want {
				t.Error(m, f)
			}
			if want {
				n++
				l = append(l, f)
			}
		}
		if Count(m) != n || !slices.Equal(List(m), l) {
			t.Error(m, Count(m), List(m))
		}
	}
	if Has(1, -1<<63) || Has(1, 1<<62) {
		t.Error("Has")
	}
}

func TestP2_2_P2_5(t *testing.T) {
	for _, c := range []struct {
		m        uint64
		from, to int
		in       bool
		want     uint64
		e        api.Errno
	}{{0, 0, 3, true, 15, api.OK}, {15, 1, 2, false, 9, api.OK}, {0, 60, 64, true, 0, api.ErrRange}, {0, -1, 3, true, 0, api.ErrRange}, {7, 3, 2, true, 0, api.ErrRange}, {0, 0, 63, true, ^uint64(0), api.OK}, {^uint64(0), 63, 63, false, 1<<63 - 1, api.OK}} {
		if m, e := Put(c.m, c.from, c.to, c.in); m != c.want || e != c.e {
			t.Error(c, m, e)
		}
	}
	for _, m := range sets {
		with, _ := Put(m, 5, 9, true)
		without, _ := Put(with, 5, 9, false)
		if with|0x3e0 != with || with&^0x3e0 != m&^0x3e0 || without != m&^0x3e0 {
			t.Error(m, with, without)
		}
	}
	for _, c := range []struct {
		n int
		m uint64
		e api.Errno
	}{{5, 31, api.OK}, {64, ^uint64(0), api.OK}, {0, 0, api.OK}, {65, 0, api.ErrRange}, {-1, 0, api.ErrRange}} {
		if m, e := All(c.n); m != c.m || e != c.e {
			t.Error(c, m, e)
		}
	}
}

func TestP2_3_P2_6_P2_7(t *testing.T) {
	for _, m := range sets {
		for f := 0; f < 64; f++ {
			above, below, near := -1, -1, -1
			for g := 0; g < 64; g++ {
				if !Has(m, g) {
					continue
				}
				if g < f {
					below = g
				}
				if g > f && above < 0 {
					above = g
				}
				if near < 0 || max(f-g, g-f) < max(f-near, near-f) {
					near = g
				}
			}
			for i, c := range []struct {
				f    func(uint64, int) (int, api.Errno)
				want int
			}{{Above, above}, {Below, below}, {Nearest, near}} {
				n, e := c.f(m, f)
				if c.want < 0 && (n != 0 || e != api.ErrMissing) || c.want >= 0 && (n != c.want || e != api.OK) {
					t.Error(i, m, f, n, e)
				}
			}
		}
	}
	for _, f := range []int{-1, 64, 1 << 62, -1 << 63} {
		_, a := Above(0, f)
		_, b := Below(0, f)
		_, c := Nearest(0, f)
		if a != api.ErrRange || b != api.ErrRange || c != api.ErrRange {
			t.Error(f, a, b, c)
		}
	}
	if n, _ := Nearest(17, 2); n != 0 {
		t.Error(n)
	}
}

func TestP2_4_P2_8(t *testing.T) {
	for s, m := range map[string]uint64{"0-3,7": 143, "none": 0, "63": 1 << 63, "0-1": 3, "0,2": 5, "0-63": ^uint64(0)} {
		if Text(m) != s {
			t.Error(s, Text(m))
		}
		if n, e := Parse(s); n != m || e != api.OK {
			t.Error(s, n, e)
		}
	}
	for _, m := range sets {
		if n, e := Parse(Text(m)); n != m || e != api.OK {
			t.Error(m, n, e)
		}
	}
	for s, want := range map[string]api.Errno{"0-3,4": api.ErrOrder, "3-0": api.ErrOrder, "7,0-3": api.ErrOrder, "64": api.ErrRange, "07": api.ErrForm, "": api.ErrForm, "1-1": api.ErrOrder, "1,2": api.ErrOrder, "1,1": api.ErrOrder, "5,99": api.ErrRange, "5,3,99": api.ErrOrder, "5,3,x": api.ErrForm, "1-2-3": api.ErrForm, "1,": api.ErrForm, ",1": api.ErrForm, "-1": api.ErrForm, "1-": api.ErrForm, "100": api.ErrForm, "00": api.ErrForm, "none,1": api.ErrForm, " 1": api.ErrForm, "\xff": api.ErrForm, "99-1": api.ErrRange, "1-64": api.ErrRange} {
		if n, e := Parse(s); n != 0 || e != want {
			t.Error(s, n, e)
		}
	}
}
