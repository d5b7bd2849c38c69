package panel

import (
	"slices"
	"testing"

	"tipstaff/api"
)

var none api.Panel

func of(at, width, way int) api.Panel { return api.Panel{At: at, Width: width, Way: way} }

func all(width int) []api.Panel {
	var l []api.Panel
	for at := 0; at <= width; at++ {
		for way := -1; way <= 1; way++ {
			if p := of(at, width, way); Check(p) == api.OK {
				l = append(l, p)
			}
		}
	}
	return l
}

func TestP16_1(t *testing.T) {
	for i, c := range []struct {
		p api.Panel
		e api.Errno
	}{{of(0, 3, 1), api.OK}, {of(3, 3, -1), api.OK}, {of(3, 3, 1), api.ErrForm}, {of(0, 3, -1), api.ErrForm}, {of(0, 21, 0), api.ErrRange}, {of(0, 0, 0), api.ErrRange}, {of(4, 3, 0), api.ErrRange}, {of(-1, 3, 0), api.ErrRange}, {of(1, 3, 2), api.ErrRange}, {of(1, 3, -2), api.ErrRange}} {
		if e := Check(c.p); e != c.e {
			t.Error(i, e)
		}
		if c.e == api.OK {
			continue
		}
		_, a := Order(c.p, 9)
		_, _, b := Step(c.p)
		_, d := Run(c.p, -1)
		_, f := Left(c.p)
		q, m, n, g := Swing(c.p, make([]int, 1001))
		_, h := Least(c.p, -1)
		_, j := Orders(c.p, -1, -1)
		if got := []api.Errno{a, b, d, f, g, h, j}; slices.ContainsFunc(got, func(e api.Errno) bool { return e != c.e }) || q != none || m+n != 0 {
			t.Error(i, got)
		}
	}
	for _, w := range []int{0, 21, -1} {
		if p, e := New(w); p != none || e != api.ErrRange {
			t.Error(w, p, e)
		}
	}
	if p, e := New(20); p != of(0, 20, 0) || e != api.OK {
		t.Error(p, e)
	}
}

func TestP16_2_P16_5_P16_6_P16_9(t *testing.T) {
	for i, c := range []struct {
		p     api.Panel
		order int
		want  api.Panel
		e     api.Errno
	}{{of(0, 3, 0), 1, of(0, 3, 1), api.OK}, {of(3, 3, 0), 1, of(3, 3, 0), api.OK}, {of(3, 3, -1), 1, of(3, 3, 0), api.OK}, {of(0, 3, 0), 2, of(0, 3, 0), api.OK}, {of(0, 3, 1), 2, of(0, 3, 0), api.OK}, {of(2, 3, 1), 2, of(2, 3, -1), api.OK}, {of(2, 3, 1), 0, of(2, 3, 1), api.OK}, {of(2, 3, 1), 3, of(2, 3, 0), api.OK}, {of(2, 3, 1), 4, of(2, 3, -1), api.OK}, {of(0, 3, 1), 4, of(0, 3, 0), api.OK}, {of(3, 3, -1), 4, of(3, 3, 0), api.OK}, {of(1, 3, 0), 4, of(1, 3, 0), api.OK}, {of(0, 3, 0), 5, none, api.ErrKind}, {of(0, 3, 0), -1, none, api.ErrKind}} {
		if p, e := Order(c.p, c.order); p != c.want || e != c.e {
			t.Error(i, p, e)
		}
	}
	for i, c := range []struct {
		p, q   api.Panel
		became int
	}{{of(0, 3, 1), of(1, 3, 1), 0}, {of(2, 3, 1), of(3, 3, 0), 1}, {of(1, 3, -1), of(0, 3, 0), -1}, {of(1, 3, 0), of(1, 3, 0), 0}, {of(2, 3, -1), of(1, 3, -1), 0}} {
		if q, b, e := Step(c.p); q != c.q || b != c.became || e != api.OK {
			t.Error(i, q, b, e)
		}
	}
	for _, p := range all(4) {
		for o := range 5 {
			if q, _ := Order(p, o); Check(q) != api.OK || q.At != p.At {
				t.Error(p, o, q)
			}
		}
		back, _ := Order(p, api.GoBack)
		if same, _ := Order(back, api.GoBack); same != p && p.At > 0 && p.At < 4 {
			t.Error(p, same)
		}
		n, e := Left(p)
		q, _, _ := Step(p)
		m, _ := Left(q)
		r, _ := Run(p, 2)
		s, _, _ := Step(q)
		end, _ := Run(p, 1000)
		if e != api.OK || (n == 0) != (p.Way == 0) || m != max(n-1, 0) || r != s || end.Way != 0 || Check(q) != api.OK || max(q.At-p.At, p.At-q.At) > 1 {
			t.Error(p, n, m, q, r, s, end)
		}
		if same, _ := Run(p, 0); same != p {
			t.Error(p)
		}
	}
	for _, n := range []int{-1, 1001} {
		if p, e := Run(of(0, 3, 1), n); p != none || e != api.ErrRange {
			t.Error(p, e)
		}
	}
}

func TestP16_3_P16_7(t *testing.T) {
	for i, c := range []struct {
		p              api.Panel
		orders         []int
		q              api.Panel
		opened, closed int
		e              api.Errno
	}{{of(0, 2, 0), []int{1, 0, 2, 0, 0}, of(0, 2, 0), 1, 1, api.OK}, {of(0, 1, 0), []int{1, 2, 1, 2, 1}, of(1, 1, 0), 3, 2, api.OK}, {of(1, 2, 1), nil, of(1, 2, 1), 0, 0, api.OK}, {of(0, 2, 0), []int{1, 9, 1}, none, 0, 0, api.ErrKind}, {of(0, 2, 0), make([]int, 1001), none, 0, 0, api.ErrLong}, {of(0, 2, 0), append(make([]int, 1000), -1), none, 0, 0, api.ErrLong}, {of(0, 2, 0), make([]int, 1000), of(0, 2, 0), 0, 0, api.OK}} {
		if q, a, b, e := Swing(c.p, c.orders); q != c.q || a != c.opened || b != c.closed || e != c.e {
			t.Error(i, q, a, b, e)
		}
	}
}

func TestP16_4_P16_8(t *testing.T) {
	for i, c := range []struct {
		p     api.Panel
		at, n int
		e     api.Errno
	}{{of(2, 3, -1), 3, 1, api.OK}, {of(2, 3, 1), 2, 0, api.OK}, {of(0, 3, 0), 4, 0, api.ErrRange}, {of(0, 3, 0), -1, 0, api.ErrRange}} {
		if n, e := Least(c.p, c.at); n != c.n || e != c.e {
			t.Error(i, n, e)
		}
	}
	for i, c := range []struct {
		p         api.Panel
		at, ticks int
		want      []int
		e         api.Errno
	}{{of(1, 3, 1), 3, 4, []int{1, 1, 3, 3}, api.OK}, {of(3, 3, 0), 2, 2, []int{2, 3}, api.OK}, {of(0, 3, 0), 3, 2, nil, api.ErrForm}, {of(0, 3, 0), 3, 1001, nil, api.ErrRange}, {of(0, 3, 0), 3, -1, nil, api.ErrRange}, {of(0, 3, 0), 4, -1, nil, api.ErrRange}, {of(2, 3, 1), 2, 0, nil, api.OK}} {
		if l, e := Orders(c.p, c.at, c.ticks); !slices.Equal(l, c.want) || e != c.e {
			t.Error(i, l, e)
		}
	}
	for _, p := range all(3) {
		for at := 0; at <= 3; at++ {
			least, _ := Least(p, at)
			for ticks := 0; ticks < 7; ticks++ {
				l, e := Orders(p, at, ticks)
				if (e == api.OK) != (ticks >= least) || len(l) != 0 && e != api.OK {
					t.Error(p, at, ticks, l, e)
				}
				if q, _, _, _ := Swing(p, l); e == api.OK && q.At != at {
					t.Error(p, at, ticks, q)
				}
			}
		}
	}
}
