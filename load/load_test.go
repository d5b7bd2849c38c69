package load

import (
	"slices"
	"testing"

	"tipstaff/api"
)

const most = 1<<63 - 1

var (
	rule  = api.LoadRule{Empty: 50, Full: 600, Slack: 20}
	plain = api.LoadRule{Empty: 50, Full: 600}
)

func TestP11_1(t *testing.T) {
	for i, c := range []struct {
		r api.LoadRule
		e api.Errno
	}{{rule, api.OK}, {api.LoadRule{Empty: 50, Full: 90, Slack: 20}, api.ErrOrder}, {api.LoadRule{Empty: 50, Full: 91, Slack: 20}, api.OK}, {api.LoadRule{Empty: -1, Full: 600, Slack: 20}, api.ErrRange}, {api.LoadRule{Empty: 0, Full: 10001}, api.ErrRange}, {api.LoadRule{Empty: 0, Full: 10000}, api.OK}, {api.LoadRule{Empty: 0, Full: 1, Slack: -1}, api.ErrRange}, {api.LoadRule{Empty: most, Full: 600, Slack: most}, api.ErrOrder}, {api.LoadRule{Empty: 0, Full: -most - 1, Slack: 5}, api.ErrOrder}, {api.LoadRule{Empty: 0, Full: 0}, api.ErrOrder}, {api.LoadRule{Empty: 2, Full: 9, Slack: most}, api.ErrOrder}} {
		if e := Check(c.r); e != c.e {
			t.Error(i, e)
		}
		if c.e == api.OK {
			continue
		}
		_, a := Band(c.r, -1)
		_, b := Held(c.r, 9, -1)
		_, d := Run(c.r, make([]int, 3000))
		_, f := Changes(c.r, make([]int, 3000))
		_, g := Fit(c.r, -1, 0)
		if a != c.e || b != c.e || d != c.e || f != c.e || g != c.e {
			t.Error(i, a, b, d, f, g)
		}
	}
}

func TestP11_2(t *testing.T) {
	for _, c := range [][2]int{{0, 1}, {50, 1}, {51, 2}, {600, 2}, {601, 3}, {10000, 3}} {
		if b, e := Band(rule, c[0]); b != c[1] || e != api.OK {
			t.Error(c, b, e)
		}
	}
	for i, c := range []struct {
		band, load, want int
		e                api.Errno
	}{{1, 70, 1, api.OK}, {1, 71, 2, api.OK}, {2, 70, 2, api.OK}, {3, 581, 3, api.OK}, {3, 580, 2, api.OK}, {1, 601, 3, api.OK}, {3, 0, 1, api.OK}, {0, 5, 0, api.ErrKind}, {4, 5, 0, api.ErrKind}, {4, 10001, 0, api.ErrRange}, {1, -1, 0, api.ErrRange}} {
		if b, e := Held(rule, c.band, c.load); b != c.want || e != c.e {
			t.Error(i, b, e)
		}
	}
	h := []int{0, 70, 71, 601, 581, 580}
	if l, e := Run(rule, h); !slices.Equal(l, []int{1, 1, 2, 3, 3, 2}) || e != api.OK {
		t.Error(l, e)
	}
	if l, e := Changes(rule, h); !slices.Equal(l, []int{2, 3, 5}) || e != api.OK {
		t.Error(l, e)
	}
	if l, e := Run(rule, []int{70, 50, 70}); !slices.Equal(l, []int{2, 1, 1}) || e != api.OK {
		t.Error(l, e)
	}
	for i, c := range []struct {
		h []int
		e api.Errno
	}{{make([]int, 2001), api.ErrLong}, {[]int{1, -1}, api.ErrRange}, {[]int{10001}, api.ErrRange}, {make([]int, 2000), api.OK}, {nil, api.OK}} {
		a, e := Run(rule, c.h)
		b, f := Changes(rule, c.h)
		if e != c.e || f != c.e || e != api.OK && (a != nil || b != nil) {
			t.Error(i, e, f)
		}
	}
	if b, e := Band(rule, 10001); b != 0 || e != api.ErrRange {
		t.Error(b, e)
	}
}

func TestP11_3(t *testing.T) {
	for i, c := range []struct {
		l []int
		n int
		e api.Errno
	}{{[]int{80, 75}, 155, api.OK}, {nil, 0, api.OK}, {[]int{9999, 2}, 0, api.ErrOver}, {[]int{9999, 1}, 10000, api.OK}, {[]int{9999, 9, -1}, 0, api.ErrRange}, {[]int{10001}, 0, api.ErrRange}, {make([]int, 2001), 0, api.ErrLong}} {
		if n, e := Total(c.l); n != c.n || e != c.e {
			t.Error(i, n, e)
		}
	}
	for i, c := range []struct {
		load, by, n int
		e           api.Errno
	}{{30, 50, 0, api.OK}, {50, 30, 20, api.OK}, {-1, 0, 0, api.ErrRange}, {0, -1, 0, api.ErrRange}, {10001, 0, 0, api.ErrRange}, {0, 10001, 0, api.ErrRange}} {
		if n, e := Tare(c.load, c.by); n != c.n || e != c.e {
			t.Error(i, n, e)
		}
	}
}

func TestP11_4_P11_8(t *testing.T) {
	for i, c := range []struct {
		load, person, n int
		e               api.Errno
	}{{0, 80, 7, api.OK}, {600, 1, 0, api.OK}, {601, 1, 0, api.OK}, {599, 1, 1, api.OK}, {0, 0, 0, api.ErrRange}, {0, 10001, 0, api.ErrRange}, {-1, 5, 0, api.ErrRange}, {10001, 5, 0, api.ErrRange}} {
		if n, e := Fit(rule, c.load, c.person); n != c.n || e != c.e {
			t.Error(i, n, e)
		}
	}
	for load := 0; load <= 600; load += 7 {
		for person := 1; person < 900; person += 13 {
			n, _ := Fit(rule, load, person)
			a, _ := Band(rule, load+n*person)
			if b, e := Band(rule, load+(n+1)*person); a == api.FullBand || e == api.OK && b != api.FullBand {
				t.Fatal(load, person, n)
			}
		}
	}
}

func TestP11_5_P11_6_P11_7_P11_9(t *testing.T) {
	for load := 0; load < 800; load++ {
		b, _ := Band(rule, load)
		c, _ := Band(rule, load+1)
		if c < b {
			t.Fatal(load)
		}
		for after := 1; after <= 3; after++ {
			h, _ := Held(rule, after, load)
			k, _ := Held(rule, after, load+1)
			p, _ := Held(plain, after, load)
			if k < h || h != b && h != after || p != b {
				t.Fatal(load, after, h, k, p)
			}
		}
	}
	// There and back again takes a way of more than Slack, at both ends.
	for a := 0; a < 700; a++ {
		for b := max(a-40, 0); b < a+40; b++ {
			for band := 1; band <= 3; band++ {
				x, _ := Held(rule, band, a)
				if y, _ := Held(rule, x, b); x != band && y == band && max(a-b, b-a) <= rule.Slack {
					t.Fatal(band, a, b)
				}
			}
		}
	}
}

func TestP11Bounds(t *testing.T) {
	if l, e := Changes(plain, []int{0, 60}); !slices.Equal(l, []int{1}) || e != api.OK {
		t.Error(l, e)
	}
	if n, e := Total(make([]int, 2000)); n != 0 || e != api.OK {
		t.Error(n, e)
	}
	if n, e := Total([]int{5, -1}); n != 0 || e != api.ErrRange {
		t.Error(n, e)
	}
	for person, want := range map[int]api.Errno{0: api.ErrRange, 1: api.OK, 10000: api.OK, 10001: api.ErrRange} {
		if _, e := Fit(rule, 0, person); e != want {
			t.Error(person, e)
		}
	}
	if e := Check(api.LoadRule{Empty: 0, Full: 1}); e != api.OK {
		t.Error(e)
	}
}
