package move

import (
	"slices"
	"testing"

	"tipstaff/api"
	"tipstaff/drive"
	"tipstaff/profile"
)

var (
	gaps = []int{3, 4}
	none api.Pad
)

func rest(pos int) api.Drive { return api.Drive{Pos: pos, Goal: pos} }

func TestP15_1(t *testing.T) {
	if n, e := Ticks(gaps, 2, 1); n != 7 || e != api.OK {
		t.Error(n, e)
	}
	for i, c := range []struct {
		g            []int
		speed, brake int
		e            api.Errno
	}{{nil, 0, 9, api.ErrLong}, {[]int{0}, 0, 9, api.ErrRange}, {gaps, 0, 1, api.ErrRange}, {gaps, 21, 1, api.ErrRange}, {gaps, 2, -1, api.ErrRange}, {gaps, 2, 6, api.ErrRange}} {
		if n, e := Ticks(c.g, c.speed, c.brake); n != 0 || e != c.e {
			t.Error(i, n, e)
		}
	}
}

func TestP15_2(t *testing.T) {
	run := api.Drive{Pos: 0, Goal: 7, Part: api.Running}
	for i, c := range []struct {
		p            api.Pad
		speed, brake int
		e            api.Errno
	}{
		{api.Pad{Drive: api.Drive{Pos: -1}}, 0, 1, api.ErrRange}, {api.Pad{Drive: api.Drive{Speed: 1}}, 2, 1, api.ErrForm}, {api.Pad{Drive: api.Drive{Speed: 1}, Total: -1}, 2, 1, api.ErrForm}, {api.Pad{Drive: rest(3), Total: 200001}, 2, 1, api.ErrRange}, {api.Pad{Drive: rest(3), Total: -1}, 2, 1, api.ErrRange}, {api.Pad{Drive: rest(3), Total: 3, Done: 4}, 2, 1, api.ErrRange}, {api.Pad{Drive: rest(3), Total: 3, Done: -1}, 2, 1, api.ErrRange},
		{api.Pad{Drive: api.Drive{Pos: 0, Goal: 9, Speed: 4, Part: api.Running}, Total: 0}, 3, 1, api.ErrForm}, {api.Pad{Drive: run, Total: 5}, 2, 1, api.ErrLong}, {api.Pad{Drive: run, Total: 9, Done: 4}, 2, 1, api.ErrLong}, {api.Pad{Drive: rest(3)}, 2, 6, api.ErrRange},
	} {
		a := Check(c.p, c.speed, c.brake)
		_, _, b := Step(c.p, c.speed, c.brake)
		_, d := Stop(c.p, c.speed, c.brake)
		_, f := Over(c.p, c.speed, c.brake)
		_, _, g := Run(c.p, c.speed, c.brake, -1)
		if got := []api.Errno{a, b, d, f, g}; slices.ContainsFunc(got, func(e api.Errno) bool { return e != c.e }) {
			t.Error(i, got)
		}
	}
	if e := Check(api.Pad{Drive: run, Total: 6}, 2, 1); e != api.OK {
		t.Error(e)
	}
}

func TestP15_3(t *testing.T) {
	for i, c := range []struct {
		d                         api.Drive
		goal, total, speed, brake int
		e                         api.Errno
	}{{rest(0), 7, 7, 2, 1, api.OK}, {rest(0), 3, 4, 2, 1, api.ErrLong}, {rest(0), 63001, -1, 2, 1, api.ErrRange}, {rest(0), 3, 200001, 2, 1, api.ErrRange}, {rest(0), 3, -1, 2, 1, api.ErrRange}, {rest(0), 3, 9, 0, 1, api.ErrRange}, {api.Drive{Speed: 1}, 3, 9, 2, 1, api.ErrForm}, {api.Drive{Goal: 5, Part: api.Running}, 3, 9, 2, 1, api.ErrState}, {rest(3), 3, 0, 2, 1, api.OK}} {
		p, e := Begin(c.d, c.goal, c.total, c.speed, c.brake)
		if e != c.e || e != api.OK && p != none || e == api.OK && (p.Drive.Goal != c.goal || p.Total != c.total || p.Done != 0) {
			t.Error(i, p, e)
		}
	}
	p, _ := Begin(rest(3), 3, 0, 2, 1)
	if over, e := Over(p, 2, 1); !over || e != api.OK {
		t.Error(over, e)
	}
	for i, c := range []struct {
		d            api.Drive
		total, speed int
		e            api.Errno
	}{{rest(3), 5, 2, api.OK}, {rest(3), 200001, 2, api.ErrRange}, {rest(3), -1, 2, api.ErrRange}, {api.Drive{Goal: 5, Part: api.Running}, -1, 2, api.ErrState}, {rest(3), 5, 0, api.ErrRange}, {api.Drive{Speed: 1}, 5, 2, api.ErrForm}} {
		p, e := Wait(c.d, c.total, c.speed, 1)
		if e != c.e || e != api.OK && p != none || e == api.OK && p != (api.Pad{Drive: c.d, Total: c.total}) {
			t.Error(i, p, e)
		}
	}
}

func TestP15_4_P15_9(t *testing.T) {
	p, _ := Begin(rest(0), 7, 7, 2, 1)
	for _, n := range []int{-1, 8} {
		if q, m, e := Run(p, 2, 1, n); q != none || m != 0 || e != api.ErrRange {
			t.Error(n, q, m, e)
		}
	}
	half, m, e := Run(p, 2, 1, 3)
	if m != 2 || half.Drive.Pos != 3 || half.Done != 3 || e != api.OK {
		t.Error(half, m, e)
	}
	s, e := Stop(half, 2, 1)
	if s != (api.Pad{Drive: rest(3), Total: 7, Done: 3}) || e != api.OK {
		t.Error(s, e)
	}
	q, m, e := Run(s, 2, 1, 4)
	if m != 0 || q.Drive.Pos != 3 || q.Done != 7 || e != api.OK {
		t.Error(q, m, e)
	}
	if x, motor, e := Step(q, 2, 1); x != none || motor || e != api.ErrState {
		t.Error(x, motor, e)
	}
	if over, e := Over(half, 2, 1); over || e != api.OK {
		t.Error(over, e)
	}
}

func TestP15_5_P15_6_P15_7_P15_8(t *testing.T) {
	for _, brake := range []int{0, 1, 3} {
		total, _ := Ticks([]int{9, 14, 7}, 4, brake)
		for from := 0; from <= 30; from += 3 {
			for to := 0; to <= 30; to++ {
				p, e := Begin(rest(from), to, total, 4, brake)
				if e != api.OK {
					t.Fatal(from, to, e)
				}
				first, motors := p, 0
				for i := range total {
					d, want, _ := drive.Step(p.Drive, 4, brake)
					next, motor, e := Step(p, 4, brake)
					run, m, f := Run(first, 4, brake, i+1)
					if motor {
						motors++
					}
					if e != api.OK || f != api.OK || next.Drive != d || motor != want || Check(next, 4, brake) != api.OK || next.Done != i+1 || run != next || m != motors {
						t.Fatal(from, to, i, next, motor, e)
					}
					p = next
				}
				way, _ := profile.Travel(max(from-to, to-from), 4)
				if over, _ := Over(p, 4, brake); !over || p.Drive != rest(to) || motors != way {
					t.Fatal(from, to, p, motors)
				}
			}
		}
	}
}

func TestP15Bounds(t *testing.T) {
	for _, c := range [][3]int{{1, 0, 0}, {20, 5, 0}, {0, 0, 2}, {21, 0, 2}, {1, -1, 2}, {1, 6, 2}} {
		_, a := Ticks(gaps, c[0], c[1])
		b := Check(api.Pad{Drive: rest(3), Total: 200000, Done: 200000}, c[0], c[1])
		if int(a) != c[2] || int(b) != c[2] {
			t.Error(c, a, b)
		}
	}
	p, _ := Begin(rest(0), 7, 7, 2, 1)
	if q, m, e := Run(p, 2, 1, 0); q != p || m != 0 || e != api.OK {
		t.Error(q, m, e)
	}
	if w, e := Wait(rest(3), 200000, 2, 1); w.Total != 200000 || e != api.OK {
		t.Error(w, e)
	}
}
