package port

import (
	"slices"
	"testing"

	"tipstaff/api"
	"tipstaff/wire"
)

var c = api.Config{Floors: 4, Cars: 2}

func frame(tag, kind, a, b int) string {
	s, _ := wire.Encode(api.Frame{Tag: tag, Event: api.Event{Kind: kind, A: a, B: b}})
	return s
}

func TestP24_1_P24_5(t *testing.T) {
	for p := range 24 {
		d, e := Domain(p)
		l, f := Ports(d)
		if d != 1+p/8 || e != api.OK || f != api.OK || len(l) != 8 || !slices.Contains(l, p) || !slices.IsSorted(l) {
			t.Error(p, d, e, l, f)
		}
	}
	for _, p := range []int{-1, 24, 1 << 62} {
		if d, e := Domain(p); d != 0 || e != api.ErrRange {
			t.Error(p, d, e)
		}
	}
	if l, e := Ports(2); !slices.Equal(l, []int{8, 9, 10, 11, 12, 13, 14, 15}) || e != api.OK {
		t.Error(l, e)
	}
	for _, d := range []int{0, 4, -1} {
		if l, e := Ports(d); l != nil || e != api.ErrRange {
			t.Error(d, l, e)
		}
	}
	for _, c := range []api.Config{{Floors: 1, Cars: 1}, {Floors: 65, Cars: 1}, {Floors: 2, Cars: 0}, {Floors: 2, Cars: 9}} {
		_, a := Fits(c, api.Event{})
		_, _, b := Judge(c, -1, "")
		_, d := Data(c, -1, api.Event{})
		_, e := Codes(c, []api.Entry{{Kind: 9}})
		if a != api.ErrRange || b != api.ErrRange || d != api.ErrRange || e != api.ErrRange {
			t.Error(c, a, b, d, e)
		}
	}
}

func TestP24_2_P24_4_P24_7(t *testing.T) {
	for i, x := range []struct {
		port, tag, kind, a, b int
		code                  int
	}{{3, 1, 1, 3, 1, 0}, {8, 1, 1, 3, 1, api.Mistagged}, {3, 1, 1, 4, 1, api.Malformed}, {8, 1, 1, 4, 1, api.Malformed}, {16, 3, 3, 99, 0, 0}, {0, 1, 2, 2, 0, 0}, {0, 1, 2, 3, 0, api.Malformed}, {0, 1, 2, 0, 0, api.Malformed}, {0, 1, 2, 1, 4, api.Malformed}, {0, 1, 4, 1, 4, api.Malformed}, {0, 1, 4, 2, 3, 0}, {0, 1, 4, 0, 0, api.Malformed}, {0, 1, 1, 3, 0, api.Malformed}, {0, 1, 1, 3, 2, 0}, {0, 1, 1, 3, 3, api.Malformed}, {0, 1, 3, 0, 0, api.Malformed}, {0, 1, 3, 5, 1, api.Malformed}} {
		want := api.Event{Kind: x.kind, A: x.a, B: x.b}
		fit, g := Fits(c, want)
		if fit != (x.code != api.Malformed) || g != api.OK {
			t.Error(i, fit, g)
		}
		if x.code != 0 {
			want = api.Event{}
		}
		if e, code, f := Judge(c, x.port, frame(x.tag, x.kind, x.a, x.b)); e != want || code != x.code || f != api.OK {
			t.Error(i, e, code, f)
		}
	}
	if e, code, f := Judge(c, 0, ""); e != (api.Event{}) || code != api.Malformed || f != api.OK {
		t.Error(e, code, f)
	}
	for _, p := range []int{-1, 24} {
		e, code, f := Judge(c, p, frame(1, 1, 3, 1))
		s, g := Data(c, p, api.Event{Kind: 9})
		if e != (api.Event{}) || code != 0 || f != api.ErrRange || s != "" || g != api.ErrRange {
			t.Error(p, e, code, f, s, g)
		}
	}
	if s, e := Data(c, 9, api.Event{Kind: 4, A: 2, B: 3}); s != frame(2, 4, 2, 3) || e != api.OK {
		t.Error(s, e)
	}
	for _, x := range []api.Event{{Kind: 3}, {}, {Kind: 5}, {Kind: 1, A: 99, B: 1}} {
		if s, e := Data(c, 9, x); s != "" || e != api.ErrKind {
			t.Error(x, s, e)
		}
	}
	for _, x := range []api.Event{{Kind: 1, A: 3, B: 2}, {Kind: 2, A: 1, B: 0}, {Kind: 3, A: 42}, {Kind: 4, A: 2, B: 1}} {
		for from := range 24 {
			s, _ := Data(c, from, x)
			for to := range 24 {
				e, code, _ := Judge(c, to, s)
				if from/8 == to/8 && (e != x || code != 0) || from/8 != to/8 && code != api.Mistagged {
					t.Error(x, from, to, e, code)
				}
			}
		}
		s, _ := Data(c, 0, x)
		for at := range len(s) {
			b := []byte(s)
			b[at] ^= 1
			if _, code, _ := Judge(c, 0, string(b)); code != api.Malformed {
				t.Error(s, at, code)
			}
		}
	}
}

func TestP24_3_P24_6(t *testing.T) {
	port := func(p int, s string) api.Entry { return api.Entry{Kind: api.AtPort, Port: p, Data: s} }
	car := api.Entry{Kind: api.AtCar, Car: 1, Port: 99}
	l := []api.Entry{port(0, frame(1, 1, 3, 1)), car, port(9, frame(1, 1, 3, 1)), port(1, ""), port(23, "x")}
	if codes, e := Codes(c, l); !slices.Equal(codes, []int{0, api.Mistagged, api.Malformed, api.Malformed}) || e != api.OK {
		t.Error(codes, e)
	}
	parts, e := Split(l)
	if len(parts) != 3 || !slices.Equal(parts[0], []api.Entry{l[0], l[3]}) || !slices.Equal(parts[1], l[2:3]) || !slices.Equal(parts[2], l[4:]) || e != api.OK {
		t.Error(parts, e)
	}
	if parts, e := Split(nil); len(parts) != 3 || e != api.OK {
		t.Error(parts, e)
	}
	for i, x := range []struct {
		l []api.Entry
		e api.Errno
	}{{[]api.Entry{car, {Kind: 3}, port(24, "")}, api.ErrKind}, {[]api.Entry{car, port(24, ""), {Kind: 3}}, api.ErrRange}, {[]api.Entry{port(-1, "")}, api.ErrRange}, {[]api.Entry{{}}, api.ErrKind}} {
		parts, e := Split(x.l)
		codes, f := Codes(c, x.l)
		if parts != nil || e != x.e || codes != nil || f != x.e {
			t.Error(i, parts, e, codes, f)
		}
	}
}

func TestP24Bounds(t *testing.T) {
	for _, c := range []api.Config{{Floors: 2, Cars: 1}, {Floors: 64, Cars: 8}} {
		for _, e := range []api.Event{{Kind: api.EvHall, A: 0, B: 1}, {Kind: api.EvHall, A: c.Floors - 1, B: 2}, {Kind: api.EvCar, A: 1, B: 0}, {Kind: api.EvCar, A: c.Cars, B: c.Floors - 1}, {Kind: api.EvKey, A: 1}, {Kind: api.EvKey, A: 99}, {Kind: api.EvMode, A: 1, B: 0}, {Kind: api.EvMode, A: c.Cars, B: 3}} {
			if fits, err := Fits(c, e); !fits || err != api.OK {
				t.Error(c, e, fits, err)
			}
		}
		for _, e := range []api.Event{{}, {Kind: 5, A: 1}, {Kind: -1}} {
			if fits, err := Fits(c, e); fits || err != api.OK {
				t.Error(c, e, fits, err)
			}
		}
	}
	l := []api.Entry{{Kind: api.AtCar, Car: 1}, {Kind: api.AtPort, Data: "x"}}
	if parts, e := Split(l); len(parts[0]) != 1 || e != api.OK {
		t.Error(parts, e)
	}
}
