package assign

import (
	"slices"
	"strings"
	"testing"

	"tipstaff/api"
	"tipstaff/call"
)

var table4 = api.Table{Cap: 8, Calls: calls("u3@0 d5@10 c2:4@20 u6@30")}

func calls(texts string) []api.Call {
	var l []api.Call
	for _, s := range strings.Fields(texts) {
		c, _ := call.Parse(s)
		l = append(l, c)
	}
	return l
}

func text(l []api.Call) string {
	s := ""
	for _, c := range l {
		x, _ := call.Text(c)
		s += x + " "
	}
	return strings.TrimSpace(s)
}

// turn is that of cars 1 and 2, in a trip, with a time of cycles.
func turn(trip, cycle int) []api.Ask {
	a := api.Ask{Car: 1, Trip: trip, Now: 100, Cycle: cycle, Full: 600}
	b := a
	b.Car = 2
	return []api.Ask{a, b}
}

func with(change func(l []api.Ask)) []api.Ask {
	l := turn(0, 1000)
	change(l)
	return l
}

func TestP29_1(t *testing.T) {
	for i, c := range []struct {
		l  []api.Ask
		e  api.Errno
		at int
	}{
		{turn(0, 1000), api.OK, 0}, {nil, api.OK, 0}, {make([]api.Ask, 9), api.ErrFull, 0}, {with(func(l []api.Ask) { l[0].Car, l[1].Car = 2, 1 }), api.ErrOrder, 1}, {with(func(l []api.Ask) { l[1].Car = 1; l[1].Trip = 1 }), api.ErrOrder, 1}, {with(func(l []api.Ask) { l[1].Trip = 1 }), api.ErrForm, 1}, {with(func(l []api.Ask) { l[1].Now = 1 }), api.ErrForm, 1}, {with(func(l []api.Ask) { l[1].Cycle = 1 }), api.ErrForm, 1}, {with(func(l []api.Ask) { l[1].Car = 9 }), api.ErrRange, 1}, {with(func(l []api.Ask) { l[0].Taken = calls("u1@0"); l[1].Car = 9 }), api.ErrForm, 0}, {with(func(l []api.Ask) { l[0].Taken = calls("c1:1@0") }), api.ErrKind, 0},
	} {
		if e, at := Check(c.l); e != c.e || at != c.at {
			t.Error(i, e, at)
		}
		if c.e == api.OK {
			continue
		}
		_, a := All(table4, c.l)
		_, b := Left(table4, c.l)
		_, d := Twice(table4, c.l)
		x, f := Serve(table4, c.l)
		_, g := Plan(table4, c.l, -1)
		if got := []api.Errno{a, b, d, f, g}; slices.ContainsFunc(got, func(e api.Errno) bool { return e != c.e }) || x.Cap != 0 {
			t.Error(i, got)
		}
	}
	bad := api.Table{Cap: 1, Calls: calls("u1@1 u2@2")}
	_, a := All(bad, make([]api.Ask, 9))
	_, b := Left(bad, make([]api.Ask, 9))
	_, d := Twice(bad, nil)
	_, f := Serve(bad, make([]api.Ask, 9))
	_, g := Plan(bad, nil, -1)
	_, h := Urgent(bad, -1, 0)

	for i, e := range []api.Errno{a, b, d, f, g, h} {
		if e != api.ErrFull {
			t.Error(i, e)
		}
	}
}

func TestP29_2_P29_4_P29_5_P29_8(t *testing.T) {
	for i, c := range []struct {
		l      []api.Ask
		floors [2]int
		by     string
	}{{turn(0, 1000), [2]int{3, 5}, "u3@0 d5@10"}, {turn(1, 1000), [2]int{3, 4}, "u3@0 c2:4@20"}, {turn(0, 95), [2]int{3, 3}, "u3@0 u3@0"}, {with(func(l []api.Ask) { l[0].Load = 601; l[0].Floor = 6 }), [2]int{6, 3}, " u3@0"}} {
		l, e := All(table4, c.l)
		if e != api.OK || len(l) != 2 || l[0].Car != 1 || l[1].Car != 2 || !l[0].Is || !l[1].Is || l[0].Floor != c.floors[0] || l[1].Floor != c.floors[1] || strings.TrimSpace(text([]api.Call{l[0].By, l[1].By})) != strings.TrimSpace(c.by) {
			t.Error(i, l, e)
		}
		if first, _ := All(table4, c.l[:1]); !slices.Equal(first, l[:1]) {
			t.Error(i, first)
		}
	}
	if l, e := All(table4, with(func(l []api.Ask) { l[0].Mode = api.Stand })); l[0] != (api.Choice{Car: 1}) || l[1].Floor != 3 || e != api.OK {
		t.Error(l, e)
	}
	for i, c := range []struct {
		f    func(api.Table, []api.Ask) ([]api.Call, api.Errno)
		l    []api.Ask
		want string
	}{{Left, turn(0, 1000), "u6@30"}, {Left, turn(0, 95), "d5@10 u6@30"}, {Twice, turn(0, 95), "u3@0"}, {Twice, turn(0, 1000), ""}, {Left, nil, "u3@0 d5@10 u6@30"}} {
		if l, e := c.f(table4, c.l); text(l) != c.want || e != api.OK {
			t.Error(i, l, e)
		}
	}
	if l, e := Urgent(table4, 100, 90); text(l) != "u3@0 d5@10" || e != api.OK {
		t.Error(l, e)
	}
	for _, c := range [][2]int{{-1, 1}, {1<<40 + 1, 1}, {0, 0}} {
		if l, e := Urgent(table4, c[0], c[1]); l != nil || e != api.ErrRange {
			t.Error(c, l, e)
		}
	}
}

func TestP29_3_P29_6_P29_7(t *testing.T) {
	for i, c := range []struct {
		l    []api.Ask
		want string
	}{{turn(0, 1000), "c2:4@20 u6@30"}, {turn(1, 1000), "d5@10 u6@30"}, {turn(0, 95), "d5@10 c2:4@20 u6@30"}, {with(func(l []api.Ask) { l[0].Load, l[1].Load, l[0].Floor, l[1].Floor = 601, 601, 4, 5 }), "u3@0 c2:4@20 u6@30"}, {nil, "u3@0 d5@10 c2:4@20 u6@30"}} {
		x, e := Serve(table4, c.l)
		if text(x.Calls) != c.want || x.Cap != 8 || e != api.OK {
			t.Error(i, text(x.Calls), e)
		}
		x.Calls[0].Floor = 60
		if text(table4.Calls) != "u3@0 d5@10 c2:4@20 u6@30" {
			t.Fatal("shared memory")
		}
	}
	for i, c := range []struct {
		l    []api.Ask
		n    int
		want []int
		e    api.Errno
	}{{turn(0, 1000), 3, []int{2, 0, 0}, api.OK}, {turn(0, 1000), 0, nil, api.OK}, {turn(15, 1000), 2, []int{2, 0}, api.OK}, {turn(0, 1000)[:1], 4, []int{3, 2, 1, 1}, api.OK}, {nil, 2, []int{4, 4}, api.OK}, {turn(0, 1000), -1, nil, api.ErrRange}, {turn(0, 1000), 101, nil, api.ErrRange}, {with(func(l []api.Ask) { l[0].Load, l[1].Mode = 601, 2; l[0].Floor = 5 }), 3, []int{3, 3, 3}, api.OK}} {
		if l, e := Plan(table4, c.l, c.n); !slices.Equal(l, c.want) || e != c.e {
			t.Error(i, l, e)
		}
	}
	if l, _ := Plan(table4, turn(0, 1000), 100); len(l) != 100 {
		t.Error(l)
	}
}

func TestP29Bounds(t *testing.T) {
	var eight []api.Ask
	for car := 1; car <= 8; car++ {
		eight = append(eight, api.Ask{Car: car, Cycle: 1000, Full: 1, Now: 100})
	}
	l, e := All(table4, eight)
	if e != api.OK || len(l) != 8 || l[2].Floor != 6 || l[3] != (api.Choice{Car: 4}) {
		t.Error(l, e)
	}
	for _, now := range []int{0, 1 << 40} {
		if _, e := Urgent(table4, now, 1); e != api.OK {
			t.Error(now, e)
		}
	}
	// The trips count up by one: in the trip 1 the car's own call comes first.
	own := api.Table{Cap: 4, Calls: calls("u3@0 u5@0 c1:2@0 u6@0")}
	if l, e := Plan(own, eight[:1], 4); !slices.Equal(l, []int{3, 2, 1, 0}) || e != api.OK {
		t.Error(l, e)
	}
	x := eight[0]
	x.Trip = 1
	if y, _ := Serve(own, []api.Ask{x}); text(y.Calls) != "u3@0 u5@0 u6@0" {
		t.Error(text(y.Calls))
	}
	down := api.Table{Cap: 4, Calls: calls("u3@0 c1:2@0 c1:1@1")}
	if l, _ := Plan(down, eight[:1], 3); !slices.Equal(l, []int{2, 1, 0}) {
		t.Error(l)
	}
}
