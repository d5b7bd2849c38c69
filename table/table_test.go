package table

import (
	"slices"
	"strings"
	"testing"

	"tipstaff/api"
	"tipstaff/call"
)

const most = 1<<63 - 1

// of makes a table with Cap from the texts of calls.
func of(cap int, texts string) api.Table {
	t := api.Table{Cap: cap}
	for _, s := range strings.Fields(texts) {
		c, _ := call.Parse(s)
		t.Calls = append(t.Calls, c)
	}
	return t
}

func text(l []api.Call) string {
	var out []string
	for _, c := range l {
		s, e := call.Text(c)
		if e != api.OK {
			s = e.Error()
		}
		out = append(out, s)
	}
	return strings.Join(out, " ")
}

func one(s string) api.Call {
	c, _ := call.Parse(s)
	return c
}

func empty(t api.Table) bool { return t.Cap == 0 && t.Calls == nil }

func TestP21_1(t *testing.T) {
	for _, n := range []int{0, 33, -1} {
		if x, e := New(n); !empty(x) || e != api.ErrRange {
			t.Error(n, x, e)
		}
	}
	if x, e := New(32); x.Cap != 32 || len(x.Calls) != 0 || e != api.OK {
		t.Error(x, e)
	}
	bad := of(3, "u3@5")
	bad.Calls = append(bad.Calls, api.Call{Kind: 1, Floor: 1, Car: 1, At: 6})
	for i, c := range []struct {
		t  api.Table
		e  api.Errno
		at int
	}{{of(3, "u3@5 d3@5 c2:3@7"), api.OK, 0}, {of(0, ""), api.ErrRange, 0}, {of(33, ""), api.ErrRange, 0}, {of(1, "u3@5 u3@5"), api.ErrFull, 0}, {bad, api.ErrRange, 1}, {of(3, "x u3@5"), api.ErrKind, 0}, {of(3, "u3@5 d3@4"), api.ErrOrder, 1}, {of(3, "u3@5 u4@5 u3@9"), api.ErrExists, 2}, {of(3, "u3@5 u4@5 u3@4"), api.ErrOrder, 2}} {
		if e, at := Check(c.t); e != c.e || at != c.at {
			t.Error(i, e, at)
		}
		if c.e == api.OK {
			continue
		}
		_, _, a := Put(c.t, api.Call{})
		_, _, b := Serve(c.t, -1, 0)
		_, _, d := Wipe(c.t)
		_, _, f := Oldest(c.t)
		_, _, g := Halls(c.t)
		_, h := Of(c.t, 0)
		_, j := Urgent(c.t, 0, -1)
		if got := []api.Errno{a, b, d, f, g, h, j}; slices.ContainsFunc(got, func(e api.Errno) bool { return e != c.e }) {
			t.Error(i, got)
		}
	}
}

func TestP21_2_P21_5(t *testing.T) {
	for i, c := range []struct {
		t, put, want string
		code         int
		e            api.Errno
	}{{"", "u3@5", "u3@5", api.Accepted, api.OK}, {"u3@5", "u3@6", "u3@5", api.Known, api.OK}, {"u3@5", "d3@4", "", 0, api.ErrOrder}, {"u3@5", "u3@4", "", 0, api.ErrOrder}, {"u3@5 d3@5 c2:3@7", "u4@8", "u3@5 d3@5 c2:3@7", api.Rejected, api.OK}, {"u3@5 d3@5 c2:3@7", "c2:3@8", "u3@5 d3@5 c2:3@7", api.Known, api.OK}, {"c2:3@7", "c1:3@7", "c2:3@7 c1:3@7", api.Accepted, api.OK}} {
		in := of(3, c.t)
		got, code, e := Put(in, one(c.put))
		if text(got.Calls) != c.want || code != c.code || e != c.e || e != api.OK && !empty(got) {
			t.Error(i, got, code, e)
		}
		if f, _ := Check(got); e == api.OK && f != api.OK {
			t.Error(i, f)
		}
		if len(got.Calls) > 0 && len(in.Calls) > 0 {
			got.Calls[0].Floor = 60
			if text(in.Calls) != c.t {
				t.Error(i, "shared memory")
			}
		}
	}
	if got, code, e := Put(of(3, "u3@5"), api.Call{Kind: 1, Car: 1}); !empty(got) || code != 0 || e != api.ErrRange {
		t.Error(got, code, e)
	}
}

func TestP21_3_P21_6_P21_7(t *testing.T) {
	rest, served, e := Serve(of(3, "u3@5 d3@5 c2:3@7"), 3, 1)
	if text(rest.Calls) != "c2:3@7" || rest.Cap != 3 || text(served) != "u3@5 d3@5" || e != api.OK {
		t.Error(rest, served, e)
	}
	full := of(8, "u3@5 c1:3@5 d1@5 c1:2@6 c2:3@7 d3@8")
	rest, served, _ = Serve(full, 3, 1)
	if text(rest.Calls) != "d1@5 c1:2@6 c2:3@7" || text(served) != "u3@5 c1:3@5 d3@8" {
		t.Error(rest, served)
	}
	again, none, _ := Serve(rest, 3, 1)
	up, down, _ := Halls(again)
	if text(again.Calls) != text(rest.Calls) || len(none) != 0 || (up|down)&8 != 0 {
		t.Error(again, none)
	}
	rest, wiped, e := Wipe(full)
	if text(rest.Calls) != "u3@5 d1@5 d3@8" || text(wiped) != "c1:3@5 c1:2@6 c2:3@7" || e != api.OK {
		t.Error(rest, wiped, e)
	}
	if again, none, _ := Wipe(rest); text(again.Calls) != text(rest.Calls) || len(none) != 0 {
		t.Error(again, none)
	}
	if text(full.Calls) != "u3@5 c1:3@5 d1@5 c1:2@6 c2:3@7 d3@8" {
		t.Error("changed")
	}
	for _, c := range [][2]int{{-1, 1}, {64, 1}, {0, 0}, {0, 9}} {
		if x, l, e := Serve(full, c[0], c[1]); !empty(x) || l != nil || e != api.ErrRange {
			t.Error(c, x, l, e)
		}
	}
}

func TestP21_4_P21_8(t *testing.T) {
	x := of(8, "u3@5 d3@5 u0@6 c2:7@6 c1:7@6 d63@9")
	up, down, e := Halls(x)
	if up != 9 || down != 1<<63|8 || e != api.OK {
		t.Error(up, down, e)
	}
	if c, is, e := Oldest(x); c != one("u3@5") || !is || e != api.OK {
		t.Error(c, is, e)
	}
	if c, is, e := Oldest(of(3, "")); c != (api.Call{}) || is || e != api.OK {
		t.Error(c, is, e)
	}
	if l, e := Of(x, 2); text(l) != "c2:7@6" || e != api.OK {
		t.Error(l, e)
	}
	for _, car := range []int{0, 9} {
		if l, e := Of(x, car); l != nil || e != api.ErrRange {
			t.Error(l, e)
		}
	}
	u := of(3, "u3@5 d1@6 c2:3@6")
	for i, c := range []struct {
		now, age int
		want     string
		e        api.Errno
	}{{9, 3, "u3@5 d1@6", api.OK}, {9, 4, "u3@5", api.OK}, {9, 5, "", api.OK}, {9, -1, "", api.ErrRange}, {5, 0, "u3@5", api.OK}, {4, 0, "", api.OK}, {-most - 1, 0, "", api.OK}, {most, most, "", api.OK}, {most, most - 5, "u3@5", api.OK}} {
		if l, e := Urgent(u, c.now, c.age); text(l) != c.want || e != c.e {
			t.Error(i, l, e)
		}
	}
}

func TestP21Bounds(t *testing.T) {
	for n, want := range map[int]api.Errno{1: api.OK, 32: api.OK, 33: api.ErrRange, 0: api.ErrRange} {
		_, a := New(n)
		if b, _ := Check(api.Table{Cap: n}); a != want || b != want {
			t.Error(n, a, b)
		}
	}
	x := of(8, "u0@5 c1:63@5 c8:0@6")
	for _, c := range []struct {
		floor, car int
		want       string
	}{{0, 8, "u0@5 c8:0@6"}, {63, 1, "c1:63@5"}} {
		if _, l, e := Serve(x, c.floor, c.car); text(l) != c.want || e != api.OK {
			t.Error(c, l, e)
		}
	}
	for car, want := range map[int]string{1: "c1:63@5", 8: "c8:0@6"} {
		if l, e := Of(x, car); text(l) != want || e != api.OK {
			t.Error(car, l, e)
		}
	}
}
