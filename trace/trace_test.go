package trace

import (
	"math/rand"
	"slices"
	"strings"
	"testing"

	"tipstaff/api"
)

const text = "from 5 1\nat 6\nreply 0 1\ncar 1 2 0 in\nup 3\nat 7\nword 0\nto 7\n"

func view(tick int, sights ...api.Sight) api.View {
	return api.View{Tick: tick, Sights: sights, Word: -1}
}

func example() []api.View {
	unseen, seen := api.Sight{Floor: -1}, api.Sight{Floor: 2}
	l := []api.View{view(5, unseen), view(6, seen), view(7, seen)}
	l[1].Replies, l[1].Up, l[2].Up, l[2].Word = []api.Reply{{Port: 0, Code: 1}}, 8, 8, 0
	return l
}

func equal(a, b []api.View) bool {
	return len(a) == len(b) && (len(a) == 0 || slices.EqualFunc(a, b, same))
}

func with(change func(l []api.View)) []api.View {
	l := example()
	change(l)
	return l
}

// random is a trace in which much happens.
func random(r *rand.Rand, n, sights int) []api.View {
	var l []api.View
	v := before(sights)
	v.Tick = r.Intn(100)
	for range n {
		v = copyView(v)
		v.Replies, v.Word = nil, -1
		for r.Intn(4) == 0 {
			v.Replies = append(v.Replies, api.Reply{Port: r.Intn(24), Code: 1 + r.Intn(6)})
		}
		for i := range v.Sights {
			if r.Intn(5) == 0 {
				v.Sights[i] = api.Sight{Floor: r.Intn(65) - 1, Panel: r.Intn(21), Out: r.Intn(3) == 0}
			}
		}
		switch r.Intn(6) {
		case 0:
			v.Up = r.Uint64() & r.Uint64() & r.Uint64()
		case 1:
			v.Down = r.Uint64() & r.Uint64() & r.Uint64()
		case 2:
			v.Up, v.Word = 0, r.Intn(256)
		}
		l = append(l, v)
		v.Tick++
	}
	return l
}

func TestP38_1(t *testing.T) {
	long := make([]api.View, 5001)
	for i, c := range []struct {
		l  []api.View
		e  api.Errno
		at int
	}{
		{nil, api.OK, 0}, {example(), api.OK, 0}, {long, api.ErrLong, 0}, {[]api.View{view(5, api.Sight{}), view(7)}, api.ErrOrder, 1}, {[]api.View{view(5)}, api.ErrForm, 0}, {[]api.View{view(-1)}, api.ErrRange, 0}, {[]api.View{view(1<<40 - 4999)}, api.ErrRange, 0}, {[]api.View{view(1<<40-5000, api.Sight{})}, api.OK, 0}, {[]api.View{view(5, make([]api.Sight, 9)...)}, api.ErrForm, 0}, {[]api.View{view(5, api.Sight{}), view(6, make([]api.Sight, 2)...)}, api.ErrForm, 1},
		{with(func(l []api.View) { l[2].Replies = make([]api.Reply, 51) }), api.ErrLong, 2}, {with(func(l []api.View) { l[2].Replies = []api.Reply{{Port: 24, Code: 1}} }), api.ErrRange, 2}, {with(func(l []api.View) { l[2].Replies = []api.Reply{{Port: -1, Code: 1}} }), api.ErrRange, 2}, {with(func(l []api.View) { l[2].Replies = []api.Reply{{}} }), api.ErrRange, 2}, {with(func(l []api.View) { l[2].Replies = []api.Reply{{Code: 7}} }), api.ErrRange, 2}, {with(func(l []api.View) { l[0].Sights[0].Floor = -2 }), api.ErrRange, 0}, {with(func(l []api.View) { l[0].Sights[0].Floor = 64 }), api.ErrRange, 0}, {with(func(l []api.View) { l[0].Sights[0].Panel = 21 }), api.ErrRange, 0}, {with(func(l []api.View) { l[0].Sights[0].Panel = -1 }), api.ErrRange, 0}, {with(func(l []api.View) { l[1].Word = 256 }), api.ErrRange, 1}, {with(func(l []api.View) { l[1].Word = -2; l[2].Tick = 9 }), api.ErrRange, 1},
	} {
		if e, at := Check(c.l); e != c.e || at != c.at {
			t.Error(i, e, at)
		}
		if c.e == api.OK {
			continue
		}
		s, a := Text(c.l)
		x, b := Changes(c.l)
		n, d := First(example(), c.l)
		m, e := First(c.l, long)
		y, f := Same(c.l, long)
		z, g := Codes(c.l)
		p, h := Part(c.l, 5, 4)
		for _, e := range []api.Errno{a, b, d, e, f, g, h} {
			if e != c.e {
				t.Error(i, a, b, d, e, f, g, h)
			}
		}
		if s != "" || x != nil || n+m != 0 || y || z != nil || p != nil {
			t.Error(i, "not zero")
		}
	}
}

func TestP38_2_P38_6(t *testing.T) {
	if s, e := Text(example()); s != text || e != api.OK {
		t.Error(s, e)
	}
	if s, e := Text(nil); s != "" || e != api.OK {
		t.Error(s, e)
	}
	r := rand.New(rand.NewSource(38))
	for i := range 60 {
		l := random(r, 1+r.Intn(20), 1+i%8)
		s, e := Text(l)
		back, f := Parse(s)
		if e != api.OK || f != (api.Fault{}) || !equal(back, l) {
			t.Fatal(s, e, f)
		}
	}
	all := with(func(l []api.View) { l[0].Up, l[1].Up, l[2].Down = ^uint64(0), 0, 1<<63|3 })
	s, e := Text(all)
	if back, f := Parse(s); e != api.OK || f.Err != api.OK || !equal(back, all) || !strings.Contains(s, "\nup\n") || !strings.Contains(s, "\ndown 0 1 63\n") {
		t.Error(s, e, f)
	}
	if s, e := Text(random(r, 3000, 8)); s != "" || e != api.ErrLong {
		t.Error(len(s), e)
	}
}

func TestP38_3_P38_7(t *testing.T) {
	for s, want := range map[string][]api.View{
		text: example(), "": nil, "# nothing\n\n": nil, "from 5 1\nto 5": {view(5, api.Sight{Floor: -1})}, " from 5 1 # x\n\nat 6\n reply 0 1\n car 1 2 0 in\n up 3\n down\n at 7\n word 0\n to 7": example(),
	} {
		l, f := Parse(s)
		if !equal(l, want) || f != (api.Fault{}) {
			t.Error(s, l, f)
		}
		again, _ := Text(l)
		if back, f := Parse(again); !equal(back, l) || f.Err != api.OK {
			t.Error(s, back, f)
		}
	}
	at := func(n int) func(string) int {
		return func(s string) int {
			return len(strings.Join(strings.SplitAfter(s, "\n")[:n], ""))
		}
	}
	end := func(s string) int { return len(s) }
	many := strings.Repeat("reply 0 1\n", 51)
	for s, want := range map[string]struct {
		e  api.Errno
		at func(string) int
	}{
		"from 5 1\nto 4": {api.ErrOrder, at(1)}, "from 5 1": {api.ErrMissing, end}, "from 5 1\nat 6\n# x\n": {api.ErrMissing, end}, "at 5": {api.ErrForm, at(0)}, "to 5": {api.ErrForm, at(0)}, "from 5 1\nat 6\nup 3\nreply 0 1\nto 7": {api.ErrForm, at(3)}, "from 5 1\nreply 0 1\nto 7": {api.ErrForm, at(1)}, "from 5 1\nup 1\nto 7": {api.ErrForm, at(1)}, "from 5 1\nfrom 5 1\nto 7": {api.ErrForm, at(1)}, "from 5 1\nto 7\nat 8": {api.ErrForm, at(2)}, "from 5 1\nto 7\nto 7": {api.ErrForm, at(2)},
		"from 5 1\nat 6\ncar 1 2 0 in\nreply 0 1": {api.ErrForm, at(3)}, "from 5 1\nat 6\nup\nup": {api.ErrForm, at(3)}, "from 5 1\nat 6\ndown\nup": {api.ErrForm, at(3)}, "from 5 1\nat 6\ndown\ndown": {api.ErrForm, at(3)}, "from 5 1\nat 6\nword 1\ndown": {api.ErrForm, at(3)}, "from 5 1\nat 6\nword 1\nword 1": {api.ErrForm, at(3)}, "from 5 1\nat 6\nword 1\ncar 1 2 0 in": {api.ErrForm, at(3)},
		"from 5": {api.ErrForm, at(0)}, "from 5 1 1": {api.ErrForm, at(0)}, "from 5 x": {api.ErrForm, at(0)}, "5 5": {api.ErrForm, at(0)}, "since 5 1": {api.ErrForm, at(0)}, "from 5 1\nat": {api.ErrForm, at(1)}, "from 5 1\nat 6\nreply 1": {api.ErrForm, at(2)}, "from 5 1\nat 6\ncar 1 2 0": {api.ErrForm, at(2)}, "from 5 1\nat 6\ncar 1 2 0 inn": {api.ErrForm, at(2)}, "from 5 1\nat 6\ncar 1 2 0 \"in\"": {api.ErrForm, at(2)}, "from 5 1\nat 6\ncar 1 x 0 in": {api.ErrForm, at(2)}, "from 5 1\nat 6\nup x": {api.ErrForm, at(2)}, "from 5 1\nat 6\nword": {api.ErrForm, at(2)},
		"from -1 1": {api.ErrRange, at(0)}, "from 5 9": {api.ErrRange, at(0)}, "from 5 0": {api.ErrRange, at(0)}, "from 1099511622777 1": {api.ErrRange, at(0)}, "from 5 1\nat -1": {api.ErrRange, at(1)}, "from 5 1\nat 6\nreply 24 1": {api.ErrRange, at(2)}, "from 5 1\nat 6\nreply 0 7": {api.ErrRange, at(2)}, "from 5 1\nat 6\nreply 0 0": {api.ErrRange, at(2)}, "from 5 1\nat 6\ncar 2 0 0 in": {api.ErrRange, at(2)}, "from 5 1\nat 6\ncar 0 0 0 in": {api.ErrRange, at(2)}, "from 5 1\nat 6\ncar 1 64 0 in": {api.ErrRange, at(2)}, "from 5 1\nat 6\ncar 1 -2 0 in": {api.ErrRange, at(2)}, "from 5 1\nat 6\ncar 1 0 21 in": {api.ErrRange, at(2)}, "from 5 1\nat 6\nup 5 64 3": {api.ErrRange, at(2)}, "from 5 1\nat 6\ndown -1": {api.ErrRange, at(2)}, "from 5 1\nat 6\nword 256": {api.ErrRange, at(2)}, "from 5 1\nat 6\nword -1": {api.ErrRange, at(2)}, "from 5 1\nto -1": {api.ErrRange, at(1)},
		"from 5 1\nat 4": {api.ErrOrder, at(1)}, "from 5 1\nat 6\nat 6": {api.ErrOrder, at(2)}, "from 5 1\nat 7\nat 6": {api.ErrOrder, at(2)}, "from 5 1\nat 7\nto 6": {api.ErrOrder, at(2)}, "from 5 2\nat 7\ncar 2 0 0 in\ncar 1 0 0 in": {api.ErrOrder, at(3)}, "from 5 2\nat 7\ncar 2 0 0 in\ncar 2 0 0 in": {api.ErrOrder, at(3)}, "from 5 1\nat 7\nup 5 5": {api.ErrOrder, at(2)}, "from 5 1\nat 7\nup 5 4": {api.ErrOrder, at(2)},
		"from 5 1\nat 7\n" + many: {api.ErrLong, at(52)}, "from 5 1\nto 5005": {api.ErrLong, at(1)}, "from 5 1\nat 1099511627776\nup 1\nto 1099511627776": {api.ErrLong, at(3)}, "from 5 1\nat 06": {api.ErrForm, func(string) int { return 12 }}, strings.Repeat("x", 1001): {api.ErrLong, at(0)},
	} {
		if l, f := Parse(s); l != nil || f != (api.Fault{Err: want.e, At: want.at(s)}) {
			t.Errorf("%q: %v %v", s[:min(len(s), 60)], l, f)
		}
	}
	if l, f := Parse("from 5 1\nto 5004"); len(l) != 5000 || f.Err != api.OK {
		t.Error(len(l), f)
	}
	if l, f := Parse("from 5 1\nat 7\n" + many[10:] + "to 9"); len(l) != 5 || len(l[2].Replies) != 50 || len(l[3].Replies) != 0 || f.Err != api.OK {
		t.Error(f)
	}
}

func TestP38_4_P38_5_P38_8_P38_9(t *testing.T) {
	l := example()
	if c, e := Changes(l); !slices.Equal(c, []int{6, 7}) || e != api.OK {
		t.Error(c, e)
	}
	if c, e := Codes(l); !slices.Equal(c, []int{1, 0, 0, 0, 0, 0}) || e != api.OK {
		t.Error(c, e)
	}
	part, e := Part(l, 5, 7)
	if !equal(part, l[:2]) || e != api.OK {
		t.Error(part, e)
	}
	part[1].Sights[0].Floor, part[1].Replies[0].Port = 9, 9
	if !equal(l, example()) {
		t.Error("shared memory")
	}
	for i, c := range []struct {
		from, to, n int
		e           api.Errno
	}{{5, 4, 0, api.ErrRange}, {-1 << 63, 1<<63 - 1, 3, api.OK}, {6, 6, 0, api.OK}, {7, 99, 1, api.OK}} {
		if p, e := Part(l, c.from, c.to); len(p) != c.n || e != c.e {
			t.Error(i, p, e)
		}
	}
	later := []api.View{view(9, api.Sight{})}
	for i, c := range []struct {
		a, b []api.View
		want int
	}{{l, l, -1}, {l, l[:2], 7}, {l, nil, 5}, {nil, nil, -1}, {l, l[1:], 5}, {l, later, 5}, {l, with(func(l []api.View) { l[1].Up = 9 }), 6}, {l, with(func(l []api.View) { l[2].Word = 1 }), 7}, {l, with(func(l []api.View) { l[1].Replies[0].Code = 2 }), 6}, {l, with(func(l []api.View) { l[0].Sights[0].Out = true }), 5}, {l, with(func(l []api.View) { l[0].Down = 1 }), 5}} {
		for _, x := range [][2][]api.View{{c.a, c.b}, {c.b, c.a}} {
			n, e := First(x[0], x[1])
			same, f := Same(x[0], x[1])
			if n != c.want || e+f != api.OK || same != (c.want < 0) {
				t.Error(i, n, e, same, f)
			}
			a, _ := Part(x[0], 0, max(n, 0))
			b, _ := Part(x[1], 0, max(n, 0))
			if !equal(a, b) {
				t.Error(i, a, b)
			}
		}
	}
	r := rand.New(rand.NewSource(9))
	for range 30 {
		l := random(r, 20, 2)
		cut := l[0].Tick + 1 + r.Intn(19)
		a, _ := Part(l, 0, cut)
		b, _ := Part(l, cut, cut+99)
		x, _ := Codes(a)
		y, _ := Codes(b)
		z, _ := Codes(l)
		for i := range z {
			if x[i]+y[i] != z[i] {
				t.Error(x, y, z)
			}
		}
		whole, _ := Changes(l)
		second, _ := Changes(b)
		for _, tick := range whole {
			if tick > cut && !slices.Contains(second, tick) {
				t.Error(cut, whole, second)
			}
		}
		for _, tick := range second {
			if tick > cut && !slices.Contains(whole, tick) {
				t.Error(cut, whole, second)
			}
		}
	}
}

func TestP38Bounds(t *testing.T) {
	first := view(0, api.Sight{Floor: -1})
	if e, _ := Check([]api.View{first}); e != api.OK {
		t.Error(e)
	}
	if same, e := Same([]api.View{first}, nil); same || e != api.OK {
		t.Error(same, e)
	}
	if n, e := First([]api.View{first}, nil); n != 0 || e != api.OK {
		t.Error(n, e)
	}
	if l, f := Parse("from 0 1\nat 0\nto 0"); !equal(l, []api.View{first}) || f != (api.Fault{}) {
		t.Error(l, f)
	}
	long := make([]api.View, 5000)
	for i := range long {
		long[i] = view(i, api.Sight{Floor: -1})
	}
	long[7].Replies = slices.Repeat([]api.Reply{{Code: 6}}, 50)
	if e, _ := Check(long); e != api.OK {
		t.Error(e)
	}
	for _, s := range []string{"from 5 1\nat 6 6\nto 7", "from 5 1\nat 6\nword 1 1\nto 7", "from 5 1\nto 7 7", "from 5 1\nat 6\nreply 1 1 1\nto 7"} {
		if l, f := Parse(s); l != nil || f.Err != api.ErrForm {
			t.Error(s, f)
		}
	}
}
