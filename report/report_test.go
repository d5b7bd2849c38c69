package report

import (
	"math/rand"
	"reflect"
	"slices"
	"testing"

	"tipstaff/api"
)

func example() []api.View {
	return []api.View{
		{Tick: 7, Up: 4, Sights: []api.Sight{{Floor: 2, Panel: 2}}, Replies: []api.Reply{{Code: api.Accepted}}, Word: -1},
		{Tick: 8, Up: 4, Down: 1, Sights: []api.Sight{{Floor: 2, Panel: 3}}, Replies: []api.Reply{{Code: api.Known}}, Word: -1},
		{Tick: 9, Down: 1, Sights: []api.Sight{{Floor: -1, Out: true}}, Word: -1},
	}
}

func with(change func(l []api.View)) []api.View {
	l := example()
	change(l)
	return l
}

func random(r *rand.Rand, n int) []api.View {
	var l []api.View
	v := api.View{Tick: r.Intn(50), Word: -1}
	for range n {
		v.Sights, v.Replies = []api.Sight{{Floor: r.Intn(4) - 1, Panel: r.Intn(3), Out: r.Intn(2) == 0}, {Floor: r.Intn(4) - 1, Panel: r.Intn(3)}}, nil
		for r.Intn(3) == 0 {
			v.Replies = append(v.Replies, api.Reply{Port: r.Intn(24), Code: 1 + r.Intn(6)})
		}
		if r.Intn(2) == 0 {
			v.Up ^= 1 << r.Intn(4) << (r.Intn(2) * 60)
			v.Down ^= 1 << r.Intn(3)
		}
		l = append(l, v)
		v.Tick++
	}
	return l
}

func none(n api.Numbers) bool { return reflect.DeepEqual(n, api.Numbers{}) }

func TestP43_1(t *testing.T) {
	long := make([]api.View, 20001)
	for i, c := range []struct {
		l  []api.View
		e  api.Errno
		at int
	}{
		{nil, api.OK, 0}, {example(), api.OK, 0}, {long, api.ErrLong, 0}, {with(func(l []api.View) { l[0].Tick = -1 }), api.ErrRange, 0}, {with(func(l []api.View) { l[0].Tick = 1<<40 + 1 }), api.ErrRange, 0}, {with(func(l []api.View) { l[0].Tick, l[1].Tick, l[2].Tick = 1<<40, 1<<40+1, 1<<40+2 }), api.OK, 0}, {with(func(l []api.View) { l[1].Tick = 9 }), api.ErrOrder, 1}, {with(func(l []api.View) { l[2].Tick = 8; l[2].Word = -2 }), api.ErrOrder, 2}, {with(func(l []api.View) { l[1].Sights = nil; l[1].Replies[0].Code = 7 }), api.ErrForm, 1}, {[]api.View{{Sights: make([]api.Sight, 9)}}, api.ErrForm, 0}, {[]api.View{{}}, api.OK, 0},
		{with(func(l []api.View) { l[1].Replies = []api.Reply{{Code: 7}, {Port: 24}} }), api.ErrKind, 1}, {with(func(l []api.View) { l[1].Replies = []api.Reply{{Port: 24, Code: 7}} }), api.ErrRange, 1}, {with(func(l []api.View) { l[1].Replies = []api.Reply{{Port: -1, Code: 1}} }), api.ErrRange, 1}, {with(func(l []api.View) { l[1].Replies = []api.Reply{{}}; l[1].Sights[0].Floor = 64 }), api.ErrKind, 1}, {with(func(l []api.View) { l[1].Sights[0].Floor = 64 }), api.ErrRange, 1}, {with(func(l []api.View) { l[1].Sights[0].Floor = -2 }), api.ErrRange, 1}, {with(func(l []api.View) { l[1].Sights[0].Panel = 21 }), api.ErrRange, 1}, {with(func(l []api.View) { l[1].Sights[0].Panel = -1 }), api.ErrRange, 1}, {with(func(l []api.View) { l[2].Word = 256 }), api.ErrRange, 2}, {with(func(l []api.View) { l[2].Word = -2 }), api.ErrRange, 2}, {with(func(l []api.View) { l[2].Word = 255 }), api.OK, 0},
	} {
		if e, at := Check(c.l); e != c.e || at != c.at {
			t.Error(i, e, at)
		}
		if c.e == api.OK {
			continue
		}
		n, a := Count(c.l, 0)
		s, b := Spells(c.l, -1, true)
		f, up, x, d := Longest(c.l)
		m, e := Lights(c.l)
		v, g := Visits(c.l, 0, 0, 0)
		k, h := Changes(c.l)
		for _, e := range []api.Errno{a, b, d, e, g, h} {
			if e != c.e {
				t.Error(i, a, b, d, e, g, h)
			}
		}
		if !none(n) || s != nil || f != 0 || up || x != (api.Stretch{}) || m != nil || v != 0 || k != nil {
			t.Error(i, "not zero")
		}
	}
	if e, _ := Check(make([]api.View, 20000)); e != api.ErrOrder {
		t.Error(e)
	}
}

func TestP43_2_P43_6_P43_8(t *testing.T) {
	n, e := Count(example(), 3)
	if !reflect.DeepEqual(n, api.Numbers{Replies: [6]int{1, 1}, Lit: 2, Out: 1, Sum: 2, Most: 2, Seen: []int{2}, Down: []int{1}, Open: []int{1}}) || e != api.OK {
		t.Error(n, e)
	}
	if n, e := Count(nil, 1); n.Lit+n.Out+n.Sum+n.Most+len(n.Seen)+len(n.Down)+len(n.Open) != 0 || n.Replies != [6]int{} || e != api.OK {
		t.Error(n, e)
	}
	for _, w := range []int{0, 21, -1} {
		if n, e := Count(example(), w); !none(n) || e != api.ErrRange {
			t.Error(w, n, e)
		}
	}
	out := with(func(l []api.View) { l[2].Sights[0].Panel = 3 })
	if n, _ := Count(out, 3); n.Open[0] != 1 {
		t.Error(n)
	}
	r := rand.New(rand.NewSource(43))
	for range 40 {
		l := random(r, 30)
		cut := 1 + r.Intn(29)
		all, _ := Count(l, 2)
		a, _ := Count(l[:cut], 2)
		b, _ := Count(l[cut:], 2)
		for i := range all.Replies {
			if a.Replies[i]+b.Replies[i] != all.Replies[i] {
				t.Error(i, a, b, all)
			}
		}
		for i := range all.Seen {
			if a.Seen[i]+b.Seen[i] != all.Seen[i] || a.Down[i]+b.Down[i] != all.Down[i] || a.Open[i]+b.Open[i] != all.Open[i] || all.Open[i] > all.Seen[i] {
				t.Error(i, a, b, all)
			}
		}
		if all.Lit > a.Lit+b.Lit {
			t.Error(a, b, all)
		}
		lit, ended, sum, longest := 0, 0, 0, 0
		for floor := range 64 {
			for _, up := range []bool{true, false} {
				s, _ := Spells(l, floor, up)
				lit += len(s)
				for _, x := range s {
					if x.To <= l[29].Tick {
						ended++
						sum += x.To - x.From
						longest = max(longest, x.To-x.From)
					}
				}
			}
		}
		if all.Lit != lit || all.Out != ended || all.Sum != sum || all.Most != longest {
			t.Error(all, lit, ended, sum, longest)
		}
	}
}

func TestP43_3_P43_5_P43_7_P43_9(t *testing.T) {
	l := example()
	for i, c := range []struct {
		floor int
		up    bool
		want  []api.Stretch
		e     api.Errno
	}{{2, true, []api.Stretch{{From: 7, To: 9}}, api.OK}, {0, false, []api.Stretch{{From: 8, To: 10}}, api.OK}, {2, false, nil, api.OK}, {-1, true, nil, api.ErrRange}, {64, true, nil, api.ErrRange}} {
		if s, e := Spells(l, c.floor, c.up); !slices.Equal(s, c.want) || e != c.e {
			t.Error(i, s, e)
		}
	}
	if f, up, s, e := Longest(l); f != 2 || !up || s != (api.Stretch{From: 7, To: 9}) || e != api.OK {
		t.Error(f, up, s, e)
	}
	if f, up, s, e := Longest(nil); f != 0 || up || s != (api.Stretch{}) || e != api.OK {
		t.Error(f, up, s, e)
	}
	for i, c := range []struct {
		up, down [3]uint64
		floor    int
		isUp     bool
		s        api.Stretch
	}{{[3]uint64{2, 2, 2}, [3]uint64{1, 1, 1}, 0, false, api.Stretch{From: 7, To: 10}}, {[3]uint64{1, 1, 1}, [3]uint64{1, 1, 1}, 0, true, api.Stretch{From: 7, To: 10}}, {[3]uint64{0, 1, 0}, [3]uint64{4, 0, 0}, 2, false, api.Stretch{From: 7, To: 8}}, {[3]uint64{8, 9, 1}, [3]uint64{0, 0, 0}, 3, true, api.Stretch{From: 7, To: 9}}, {[3]uint64{0, 0, 0}, [3]uint64{0, 0, 1 << 63}, 63, false, api.Stretch{From: 9, To: 10}}} {
		x := with(func(l []api.View) {
			for i := range l {
				l[i].Up, l[i].Down = c.up[i], c.down[i]
			}
		})
		if f, up, s, e := Longest(x); f != c.floor || up != c.isUp || s != c.s || e != api.OK {
			t.Error(i, f, up, s, e)
		}
	}
	if m, e := Lights(l); !slices.Equal(m, []int{1, 2, 1}) || e != api.OK {
		t.Error(m, e)
	}
	r := rand.New(rand.NewSource(3))
	for range 40 {
		l := random(r, 30)
		lights, _ := Lights(l)
		changes, _ := Changes(l)
		_, _, longest, _ := Longest(l)
		sum := 0
		for _, n := range lights {
			sum -= n
		}
		for floor := range 64 {
			for _, up := range []bool{true, false} {
				s, _ := Spells(l, floor, up)
				for i, x := range s {
					sum += x.To - x.From
					from, to := x.From-l[0].Tick, x.To-l[0].Tick
					if i > 0 && x.From <= s[i-1].To || !slices.Contains(changes, from) || to < 30 && !slices.Contains(changes, to) || x.To-x.From > longest.To-longest.From {
						t.Fatal(floor, up, s, changes)
					}
					for n := from; n < to; n++ {
						if m := l[n].Up; up && m>>floor&1 == 0 || !up && l[n].Down>>floor&1 == 0 {
							t.Fatal(floor, up, s)
						}
					}
				}
			}
		}
		if sum != 0 {
			t.Error(sum)
		}
	}
}

func TestP43_4(t *testing.T) {
	l := example()
	for i, c := range []struct {
		car, floor, width, n int
		e                    api.Errno
	}{{1, 2, 3, 1, api.OK}, {1, 2, 2, 1, api.OK}, {1, 1, 2, 0, api.OK}, {2, 0, 1, 0, api.ErrRange}, {0, 0, 1, 0, api.ErrRange}, {1, -1, 1, 0, api.ErrRange}, {1, 64, 1, 0, api.ErrRange}, {1, 0, 0, 0, api.ErrRange}, {1, 0, 21, 0, api.ErrRange}} {
		if n, e := Visits(l, c.car, c.floor, c.width); n != c.n || e != c.e {
			t.Error(i, n, e)
		}
	}
	if n, e := Visits(nil, 1, 0, 1); n != 0 || e != api.ErrRange {
		t.Error(n, e)
	}
	var open []api.View
	for i, p := range []int{3, 3, 2, 3, 0, 3, 3} {
		open = append(open, api.View{Tick: i, Sights: []api.Sight{{Floor: 1, Panel: p}}})
	}
	open[6].Sights[0].Floor = 2
	if n, e := Visits(open, 1, 1, 3); n != 3 || e != api.OK {
		t.Error(n, e)
	}
	if c, e := Changes(l); !slices.Equal(c, []int{0, 1, 2}) || e != api.OK {
		t.Error(c, e)
	}
	if c, e := Changes(with(func(l []api.View) { l[0].Up, l[2].Up = 0, 4 })); !slices.Equal(c, []int{1}) || e != api.OK {
		t.Error(c, e)
	}
}

func TestP43Bounds(t *testing.T) {
	l := []api.View{{Sights: []api.Sight{{Panel: 3}, {Floor: -1, Panel: 3}}, Word: 255}, {Tick: 1, Sights: []api.Sight{{Panel: 3}, {Floor: 63, Panel: 20}}, Up: 1, Replies: []api.Reply{{Port: 23, Code: 6}}}, {Tick: 2, Sights: []api.Sight{{Panel: 2}, {Floor: 63, Panel: 3}}, Up: 3}, {Tick: 3, Sights: []api.Sight{{Panel: 0}, {}}, Up: 3}}
	n, e := Count(l, 3)
	if !reflect.DeepEqual(n, api.Numbers{Replies: [6]int{5: 1}, Lit: 2, Seen: []int{4, 3}, Down: []int{0, 0}, Open: []int{2, 1}}) || e != api.OK {
		t.Error(n, e)
	}
	for _, c := range [][4]int{{1, 0, 3, 1}, {2, 63, 20, 1}, {2, 63, 3, 1}, {1, 0, 1, 0}, {2, 0, 3, 0}} {
		if n, e := Visits(l, c[0], c[1], c[2]); n != c[3] || e != api.OK {
			t.Error(c, n, e)
		}
	}
	if f, up, s, e := Longest(l); f != 0 || !up || s != (api.Stretch{From: 1, To: 4}) || e != api.OK {
		t.Error(f, up, s, e)
	}
	eight := []api.View{{Sights: make([]api.Sight, 8)}}
	if e, _ := Check(eight); e != api.OK {
		t.Error(e)
	}
	if s, e := Spells(l, 1, true); !slices.Equal(s, []api.Stretch{{From: 2, To: 4}}) || e != api.OK {
		t.Error(s, e)
	}
}
