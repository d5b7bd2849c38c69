package purge

import (
	"reflect"
	"slices"
	"strings"
	"testing"

	"tipstaff/api"
	"tipstaff/call"
)

func of(texts string) api.Table {
	t := api.Table{Cap: 5}
	for _, s := range strings.Fields(texts) {
		c, _ := call.Parse(s)
		t.Calls = append(t.Calls, c)
	}
	return t
}

func text(t api.Table) string {
	s := ""
	for _, c := range t.Calls {
		x, _ := call.Text(c)
		s += x + " "
	}
	return strings.TrimSpace(s)
}

func example() api.Handover {
	return api.Handover{Loads: []int{3, 8}, Faulted: []bool{true, false}, In: []bool{true, true}, Tables: []api.Table{of("u2@4 c1:0@5 d0@6"), of(""), of("")}}
}

func with(change func(*api.Handover)) api.Handover {
	h := example()
	change(&h)
	return h
}

func empty(h api.Handover) bool { return reflect.DeepEqual(h, api.Handover{}) }

func TestP30_1(t *testing.T) {
	for i, c := range []struct {
		change func(*api.Handover)
		e      api.Errno
	}{
		{func(h *api.Handover) { h.Loads = h.Loads[:1] }, api.ErrForm}, {func(h *api.Handover) { h.Loads = nil }, api.ErrForm}, {func(h *api.Handover) { h.Loads, h.Faulted, h.In = make([]int, 9), make([]bool, 9), make([]bool, 9) }, api.ErrForm}, {func(h *api.Handover) { h.Faulted = nil }, api.ErrForm}, {func(h *api.Handover) { h.In = make([]bool, 3) }, api.ErrForm}, {func(h *api.Handover) { h.Tables = h.Tables[:2]; h.Loads[0] = -1 }, api.ErrForm}, {func(h *api.Handover) { h.Loads[0] = -1 }, api.ErrRange}, {func(h *api.Handover) { h.Loads[1] = 10001; h.Tables[0].Cap = 1 }, api.ErrRange}, {func(h *api.Handover) { h.Tables[0].Cap = 1; h.Tables[1].Cap = 0 }, api.ErrFull}, {func(h *api.Handover) { h.Tables[2].Cap = 0 }, api.ErrRange}, {func(h *api.Handover) {}, api.OK},
	} {
		h := with(c.change)
		if e := Check(h); e != c.e {
			t.Error(i, e)
		}
		if c.e == api.OK {
			continue
		}
		_, a := Word(h, -1)
		x, w, b := Over(h, -1)
		_, d := Clean(h, -1)
		_, f := Wiped(h)
		_, g := Slots(h, -1, make([][]int, 101), nil)
		if got := []api.Errno{a, b, d, f, g}; slices.ContainsFunc(got, func(e api.Errno) bool { return e != c.e }) || w != 0 || !empty(x) {
			t.Error(i, got)
		}
	}
	for _, n := range []int{-1, 10001} {
		_, a := Word(example(), n)
		_, _, b := Over(example(), n)
		_, c := Clean(example(), n)
		_, d := Slots(example(), n, make([][]int, 3), nil)
		if a != api.ErrRange || b != a || c != a || d != a {
			t.Error(n, a, b, c, d)
		}
	}
}

func TestP30_2_P30_5_P30_6_P30_7_P30_8_P30_9(t *testing.T) {
	for _, c := range [][2]int{{5, 3}, {2, 3}, {8, 1}, {3, 3}} {
		if w, e := Word(example(), c[0]); w != c[1] || e != api.OK {
			t.Error(c, w, e)
		}
		if w, _ := Word(with(func(h *api.Handover) { h.In[0] = false; h.Tables[0] = of("u1@1") }), c[0]); w != c[1] {
			t.Error(c, w)
		}
	}
	h := example()
	n, w, e := Over(h, 5)
	if w != 3 || e != api.OK || !reflect.DeepEqual(n.In, []bool{false, false}) || !reflect.DeepEqual(n.Faulted, []bool{false, false}) || !slices.Equal(n.Loads, []int{3, 8}) || len(n.Tables) != 3 || text(n.Tables[0]) != "u2@4 d0@6" || n.Tables[0].Cap != 5 {
		t.Error(n, w, e)
	}
	n.Loads[0], n.Tables[0].Calls[0].Floor = 9, 9
	if !reflect.DeepEqual(h, example()) {
		t.Error("shared memory")
	}
	n, _, _ = Over(h, 5)
	for i, clean := range first(Clean(n, 5)) {
		if !clean {
			t.Error(i)
		}
	}
	again, w, _ := Over(n, 5)
	if w != 2 || !reflect.DeepEqual(again.In, []bool{true, false}) {
		t.Error(again, w)
	}
	if l, e := Wiped(h); !slices.Equal(l, []int{1, 0, 0}) || e != api.OK {
		t.Error(l, e)
	}
	if l, e := Clean(h, 5); !slices.Equal(l, []bool{false, false}) || e != api.OK {
		t.Error(l, e)
	}
	if l, e := Clean(with(func(h *api.Handover) { h.Tables[0] = of(""); h.Tables[2] = of("c2:1@1"); h.Loads[1] = 0 }), 5); !slices.Equal(l, []bool{true, false}) || e != api.OK {
		t.Error(l, e)
	}
	if l, _ := Clean(with(func(h *api.Handover) { h.In[1] = false }), 5); !l[1] {
		t.Error(l)
	}
	for n := range 10 {
		a, _ := Word(h, n)
		b, _ := Word(h, n+1)
		over, w, _ := Over(h, n)
		bits, _ := Bits(w, 2)
		if b&^a != 0 || bits[0] == over.In[0] || bits[1] == over.In[1] {
			t.Error(n, a, b, bits)
		}
	}
}

func first(l []bool, _ api.Errno) []bool { return l }

func TestP30_3(t *testing.T) {
	for i, c := range []struct {
		word, cars int
		want       []bool
		e          api.Errno
	}{{2, 2, []bool{false, true}, api.OK}, {4, 2, nil, api.ErrRange}, {-1, 2, nil, api.ErrRange}, {0, 0, nil, api.ErrRange}, {0, 9, nil, api.ErrRange}, {255, 8, []bool{true, true, true, true, true, true, true, true}, api.OK}, {256, 8, nil, api.ErrRange}, {0, -1, nil, api.ErrRange}} {
		if l, e := Bits(c.word, c.cars); !slices.Equal(l, c.want) || e != c.e {
			t.Error(i, l, e)
		}
	}
}

func TestP30_4(t *testing.T) {
	no := []bool{false, false}
	for i, c := range []struct {
		loads  [][]int
		faults [][]bool
		want   []int
		e      api.Errno
	}{
		{[][]int{{0, 8}, {0, 5}}, [][]bool{no, no}, []int{3, 2, 0}, api.OK}, {nil, nil, []int{3}, api.OK}, {[][]int{{0, 8}}, [][]bool{{true, false}}, []int{3, 3}, api.OK}, {[][]int{{0, 8}}, nil, nil, api.ErrForm}, {make([][]int, 101), make([][]bool, 101), nil, api.ErrForm}, {[][]int{{0, 8}, {0}}, [][]bool{no, no}, nil, api.ErrForm}, {[][]int{{0}}, [][]bool{{false}}, nil, api.ErrForm}, {[][]int{{0, -1}, {0}}, [][]bool{no, no}, nil, api.ErrRange},
	} {
		if l, e := Slots(example(), 5, c.loads, c.faults); !slices.Equal(l, c.want) || e != c.e {
			t.Error(i, l, e)
		}
	}
	loads, faults := make([][]int, 100), make([][]bool, 100)
	for i := range loads {
		loads[i], faults[i] = []int{0, 0}, no
	}
	if l, e := Slots(example(), 5, loads, faults); len(l) != 101 || e != api.OK {
		t.Error(l, e)
	}
}

func TestP30Bounds(t *testing.T) {
	for cars := 1; cars <= 8; cars++ {
		h := api.Handover{Loads: make([]int, cars), Faulted: make([]bool, cars), In: make([]bool, cars), Tables: []api.Table{of(""), of(""), of("")}}
		h.Loads[cars-1], h.In[cars-1] = 10000, true
		for empty, want := range map[int]int{0: 1 << (cars - 1), 9999: 1 << (cars - 1), 10000: 0} {
			w, e := Word(h, empty)
			l, f := Clean(h, empty)
			if w != want || e+f != api.OK || l[cars-1] != (want == 0) {
				t.Error(cars, empty, w, e, l, f)
			}
		}
		if l, e := Bits(0, cars); len(l) != cars || e != api.OK {
			t.Error(l, e)
		}
		if l, e := Bits(1<<cars-1, cars); slices.Contains(l, false) || e != api.OK {
			t.Error(l, e)
		}
	}
}
