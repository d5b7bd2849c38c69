package pick

import (
	"slices"
	"strings"
	"testing"

	"tipstaff/api"
	"tipstaff/call"
)

var (
	most = api.Table{Cap: 9, Calls: calls("u3@5 d1@6 c2:7@6 c1:0@7")}
	none api.Call
)

func calls(texts string) []api.Call {
	var l []api.Call
	for _, s := range strings.Fields(texts) {
		c, _ := call.Parse(s)
		l = append(l, c)
	}
	return l
}

func text(c api.Call) string {
	s, e := call.Text(c)
	if e != api.OK {
		return ""
	}
	return s
}

func all(l []api.Call) string {
	s := ""
	for _, c := range l {
		s += text(c) + " "
	}
	return strings.TrimSpace(s)
}

func ask(change func(*api.Ask)) api.Ask {
	a := api.Ask{Car: 1, Now: 9, Cycle: 10, Full: 500, Floor: 4, Home: 2}
	change(&a)
	return a
}

func nothing(*api.Ask) {}

func TestP28_1(t *testing.T) {
	for i, c := range []struct {
		change func(*api.Ask)
		e      api.Errno
	}{
		{nothing, api.OK}, {func(a *api.Ask) { a.Car = 9 }, api.ErrRange}, {func(a *api.Ask) { a.Car = 0 }, api.ErrRange}, {func(a *api.Ask) { a.Mode = 4 }, api.ErrRange}, {func(a *api.Ask) { a.Mode = -1 }, api.ErrRange}, {func(a *api.Ask) { a.Trip = 16 }, api.ErrRange}, {func(a *api.Ask) { a.Trip = -1 }, api.ErrRange}, {func(a *api.Ask) { a.Now = -1 }, api.ErrRange}, {func(a *api.Ask) { a.Now = 1<<40 + 1 }, api.ErrRange}, {func(a *api.Ask) { a.Cycle = 0 }, api.ErrRange}, {func(a *api.Ask) { a.Load = -1 }, api.ErrRange}, {func(a *api.Ask) { a.Load = 10001 }, api.ErrRange}, {func(a *api.Ask) { a.Full = 0 }, api.ErrRange}, {func(a *api.Ask) { a.Full = 10001 }, api.ErrRange}, {func(a *api.Ask) { a.Floor = 64 }, api.ErrRange}, {func(a *api.Ask) { a.Floor = -1 }, api.ErrRange}, {func(a *api.Ask) { a.Home = 64 }, api.ErrRange}, {func(a *api.Ask) { a.Home = -1; a.Taken = make([]api.Call, 9) }, api.ErrRange},
		{func(a *api.Ask) { a.Taken = make([]api.Call, 9) }, api.ErrFull}, {func(a *api.Ask) { a.Taken = calls("u1@0 c1:1@0") }, api.ErrKind}, {func(a *api.Ask) { a.Taken = []api.Call{{Kind: 1, Floor: 64}, {}} }, api.ErrRange}, {func(a *api.Ask) { a.Taken = []api.Call{{Kind: 9, Floor: 64}} }, api.ErrKind}, {func(a *api.Ask) { a.Taken = calls("u1@0 u1@0 u1@9 u2@0 u3@0 u4@0 u5@0 u6@0") }, api.OK},
	} {
		a := ask(c.change)
		if e := Check(a); e != c.e {
			t.Error(i, e)
		}
		if c.e == api.OK {
			continue
		}
		x, is, e := By(most, a)
		f, g, by, h := Goal(most, a)
		l, j := Order(most, a)
		if x != none || is || e != c.e || f != 0 || g || by != none || h != c.e || l != nil || j != c.e {
			t.Error(i, e, h, j)
		}
		if x, is, e := Hall(most, a.Now, a.Cycle, a.Taken); len(a.Taken) > 0 && a.Home > 0 && (x != none || is || e != c.e) {
			t.Error(i, x, is, e)
		}
	}
	for _, c := range [][2]int{{-1, 1}, {1<<40 + 1, 1}, {0, 0}} {
		if x, is, e := Hall(most, c[0], c[1], make([]api.Call, 9)); x != none || is || e != api.ErrRange {
			t.Error(c, x, is, e)
		}
	}
	for _, car := range []int{0, 9} {
		if x, is, e := Own(most, car); x != none || is || e != api.ErrRange {
			t.Error(car, x, is, e)
		}
	}
	bad := api.Table{Cap: 1, Calls: calls("u1@1 u2@2")}
	_, _, a := Hall(bad, -1, 0, nil)
	_, _, b := Own(bad, 0)
	_, _, c := By(bad, api.Ask{})
	_, _, _, d := Goal(bad, api.Ask{})
	_, e := Order(bad, api.Ask{})
	if got := []api.Errno{a, b, c, d, e}; slices.ContainsFunc(got, func(e api.Errno) bool { return e != api.ErrFull }) {
		t.Error(got)
	}
}

func TestP28_2_P28_4_P28_5(t *testing.T) {
	for i, c := range []struct {
		change func(*api.Ask)
		want   string
	}{
		{nothing, "u3@5"}, {func(a *api.Ask) { a.Taken = calls("u3@1") }, "d1@6"}, {func(a *api.Ask) { a.Taken = calls("u3@5 d1@6") }, "c1:0@7"}, {func(a *api.Ask) { a.Now = 15; a.Taken = calls("u3@5") }, "u3@5"}, {func(a *api.Ask) { a.Now = 14; a.Taken = calls("u3@5") }, "d1@6"}, {func(a *api.Ask) { a.Now = 16; a.Taken = calls("u3@5") }, "u3@5"}, {func(a *api.Ask) { a.Trip = 1 }, "c1:0@7"}, {func(a *api.Ask) { a.Trip = 1; a.Car = 3 }, "u3@5"}, {func(a *api.Ask) { a.Mode = 1 }, "c1:0@7"}, {func(a *api.Ask) { a.Mode = 2 }, ""}, {func(a *api.Ask) { a.Mode = 3 }, ""}, {func(a *api.Ask) { a.Car = 3; a.Mode = 1 }, ""}, {func(a *api.Ask) { a.Car = 2; a.Trip = 15 }, "c2:7@6"}, {func(a *api.Ask) { a.Cycle = 1<<63 - 1; a.Now = 1 << 40 }, "u3@5"},
	} {
		if x, is, e := By(most, ask(c.change)); text(x) != c.want || is != (c.want != "") || e != api.OK {
			t.Error(i, x, is, e)
		}
	}
	if x, is, e := Hall(most, 9, 10, calls("u3@5 d1@6")); x != none || is || e != api.OK {
		t.Error(x, is, e)
	}
	if x, is, e := Hall(most, 16, 10, calls("u3@5 d1@6")); text(x) != "u3@5" || !is || e != api.OK {
		t.Error(x, is, e)
	}
	if x, is, e := Hall(api.Table{Cap: 4, Calls: calls("c1:3@0 u5@1")}, 99, 10, nil); text(x) != "u5@1" || !is || e != api.OK {
		t.Error(x, is, e)
	}
	for car, want := range []string{1: "c1:0@7", 2: "c2:7@6", 3: ""} {
		if x, is, e := Own(most, max(car, 1)); car > 0 && (text(x) != want || is != (want != "") || e != api.OK) {
			t.Error(car, x, is, e)
		}
	}
}

func TestP28_3_P28_6_P28_7_P28_8(t *testing.T) {
	for i, c := range []struct {
		change func(*api.Ask)
		floor  int
		is     bool
		by     string
	}{{nothing, 3, true, "u3@5"}, {func(a *api.Ask) { a.Load = 501 }, 4, true, ""}, {func(a *api.Ask) { a.Mode = 3 }, 2, true, ""}, {func(a *api.Ask) { a.Mode = 3; a.Load = 501 }, 4, true, ""}, {func(a *api.Ask) { a.Load = 501; a.Mode = 2 }, 0, false, ""}, {func(a *api.Ask) { a.Load = 500 }, 3, true, "u3@5"}, {func(a *api.Ask) { a.Mode = 1; a.Car = 3 }, 0, false, ""}, {func(a *api.Ask) { a.Mode = 1 }, 0, true, "c1:0@7"}} {
		if f, is, by, e := Goal(most, ask(c.change)); f != c.floor || is != c.is || text(by) != c.by || e != api.OK {
			t.Error(i, f, is, by, e)
		}
	}
	for i, c := range []struct {
		change func(*api.Ask)
		want   string
	}{{nothing, "u3@5 d1@6 c1:0@7"}, {func(a *api.Ask) { a.Trip = 1 }, "c1:0@7 u3@5 d1@6"}, {func(a *api.Ask) { a.Taken = calls("u3@5") }, "d1@6 c1:0@7"}, {func(a *api.Ask) { a.Taken = calls("u3@5"); a.Now = 15 }, "u3@5 d1@6 c1:0@7"}, {func(a *api.Ask) { a.Mode = 1 }, "c1:0@7"}, {func(a *api.Ask) { a.Mode = 2 }, ""}, {func(a *api.Ask) { a.Mode = 3 }, ""}} {
		if l, e := Order(most, ask(c.change)); all(l) != c.want || e != api.OK {
			t.Error(i, all(l), e)
		}
	}
	if all(most.Calls) != "u3@5 d1@6 c2:7@6 c1:0@7" {
		t.Error("changed")
	}
	var taken []api.Call
	for car := 1; car <= 3; car++ {
		x, is, _ := By(most, ask(func(a *api.Ask) { a.Car = car; a.Taken = taken }))
		if is && slices.Contains(taken, x) {
			t.Error(car, x)
		}
		if is && x.Kind != api.CarCall {
			taken = append(taken, x)
		}
	}
}

func TestP28Bounds(t *testing.T) {
	low := api.Ask{Car: 1, Cycle: 1, Full: 1}
	high := api.Ask{Car: 8, Mode: 3, Trip: 15, Now: 1 << 40, Cycle: 1<<63 - 1, Load: 10000, Full: 10000, Floor: 63, Home: 63}
	for _, a := range []api.Ask{low, high} {
		if e := Check(a); e != api.OK {
			t.Error(a, e)
		}
	}
	if x, is, e := Hall(most, 1<<40, 1, calls("u3@5")); text(x) != "u3@5" || !is || e != api.OK {
		t.Error(x, is, e)
	}
}
