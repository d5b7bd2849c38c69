package key

import (
	"slices"
	"testing"

	"tipstaff/api"
)

func state(last int) api.KeyState { return api.KeyState{Keys: []int{7, 42}, Life: 10, Last: last} }

func same(a, b api.KeyState) bool {
	return slices.Equal(a.Keys, b.Keys) && a.Life == b.Life && a.Last == b.Last
}

func stamps(n ...int) []api.Stamp {
	var l []api.Stamp
	for i := 0; i < len(n); i += 2 {
		l = append(l, api.Stamp{Tick: n[i], Key: n[i+1]})
	}
	return l
}

func TestP22_1(t *testing.T) {
	for i, c := range []struct {
		k api.KeyState
		e api.Errno
	}{{state(-1), api.OK}, {state(1 << 40), api.OK}, {state(-2), api.ErrRange}, {state(1<<40 + 1), api.ErrRange}, {api.KeyState{Keys: make([]int, 9), Life: 1}, api.ErrFull}, {api.KeyState{Keys: []int{0}, Life: 1}, api.ErrRange}, {api.KeyState{Keys: []int{7, 7}, Life: 0}, api.ErrOrder}, {api.KeyState{Keys: []int{7, 100}, Life: 1}, api.ErrRange}, {api.KeyState{Keys: []int{7, 5, 100}, Life: 1}, api.ErrOrder}, {api.KeyState{Life: 0}, api.ErrRange}, {api.KeyState{Life: 100001}, api.ErrRange}, {api.KeyState{Life: 100000}, api.OK}} {
		if e := Check(c.k); e != c.e {
			t.Error(i, e)
		}
		if c.e == api.OK {
			continue
		}
		_, _, a := Present(c.k, 0, -1)
		_, b := Valid(c.k, -1)
		_, d := Left(c.k, -1)
		_, f := Stretches(c.k, make([]api.Stamp, 2001))
		_, g := Covers(c.k, make([]api.Stamp, 2001), -1, 0)
		if got := []api.Errno{a, b, d, f, g}; slices.ContainsFunc(got, func(e api.Errno) bool { return e != c.e }) {
			t.Error(i, got)
		}
	}
	keys := []int{7, 42}
	k, e := New(keys, 10)
	if !same(k, state(-1)) || e != api.OK {
		t.Error(k, e)
	}
	keys[0] = 1
	if k.Keys[0] != 7 {
		t.Error("shared memory")
	}
	for i, c := range []struct {
		keys []int
		life int
		e    api.Errno
	}{{[]int{7, 7}, 10, api.ErrOrder}, {[]int{0}, 10, api.ErrRange}, {[]int{7, 42}, 0, api.ErrRange}, {make([]int, 9), 10, api.ErrFull}} {
		if k, e := New(c.keys, c.life); !same(k, api.KeyState{}) || e != c.e {
			t.Error(i, k, e)
		}
	}
}

func TestP22_2(t *testing.T) {
	for i, c := range []struct {
		k        api.KeyState
		key, now int
		want     api.KeyState
		known    bool
		e        api.Errno
	}{{state(-1), 42, 5, state(5), true, api.OK}, {state(-1), 9, 5, state(-1), false, api.OK}, {state(5), 7, 4, api.KeyState{}, false, api.ErrOrder}, {state(5), 9, 4, api.KeyState{}, false, api.ErrOrder}, {state(5), 7, 5, state(5), true, api.OK}, {state(5), 9, 6, state(5), false, api.OK}, {state(5), 0, 6, api.KeyState{}, false, api.ErrRange}, {state(5), 100, 6, api.KeyState{}, false, api.ErrRange}, {state(-1), 7, -1, api.KeyState{}, false, api.ErrRange}, {state(5), 7, 1<<40 + 1, api.KeyState{}, false, api.ErrRange}} {
		k, known, e := Present(c.k, c.key, c.now)
		if !same(k, c.want) || known != c.known || e != c.e {
			t.Error(i, k, known, e)
		}
		if e == api.OK {
			k.Keys[0] = 1
			if c.k.Keys[0] != 7 {
				t.Error("shared memory")
			}
		}
	}
}

func TestP22_3_P22_6(t *testing.T) {
	for i, c := range []struct {
		k api.KeyState
		t int
		n int
		e api.Errno
	}{{state(5), 4, 0, api.OK}, {state(5), 5, 10, api.OK}, {state(5), 14, 1, api.OK}, {state(5), 15, 0, api.OK}, {state(-1), 0, 0, api.OK}, {state(0), 0, 10, api.OK}, {state(5), -1, 0, api.ErrRange}, {state(5), 1<<40 + 1, 0, api.ErrRange}, {state(5), 1 << 40, 0, api.OK}} {
		n, e := Left(c.k, c.t)
		v, f := Valid(c.k, c.t)
		if n != c.n || e != c.e || v != (c.n > 0) || f != c.e {
			t.Error(i, n, e, v, f)
		}
	}
	for tick := 5; tick < 20; tick++ {
		a, _ := Left(state(5), tick)
		if b, _ := Left(state(5), tick+1); b != max(a-1, 0) || a > 10 {
			t.Error(tick, a, b)
		}
	}
}

func TestP22_4_P22_5_P22_7_P22_8_P22_9(t *testing.T) {
	h := stamps(5, 42, 12, 7, 13, 9, 30, 7)
	l, e := Stretches(state(99), h)
	if !slices.Equal(l, []api.Stretch{{From: 5, To: 22}, {From: 30, To: 40}}) || e != api.OK {
		t.Error(l, e)
	}
	for i, c := range []struct {
		h    []api.Stamp
		want []api.Stretch
		e    api.Errno
	}{{nil, nil, api.OK}, {stamps(5, 7, 15, 7), []api.Stretch{{From: 5, To: 25}}, api.OK}, {stamps(5, 7, 16, 7), []api.Stretch{{From: 5, To: 15}, {From: 16, To: 26}}, api.OK}, {stamps(5, 9), nil, api.OK}, {stamps(5, 7, 4, 0), nil, api.ErrRange}, {stamps(5, 7, 4, 7), nil, api.ErrOrder}, {stamps(5, 100), nil, api.ErrRange}, {stamps(-1, 7), nil, api.ErrRange}, {stamps(1<<40+1, 7), nil, api.ErrRange}, {make([]api.Stamp, 2001), nil, api.ErrLong}} {
		l, e := Stretches(state(-1), c.h)
		_, f := Covers(state(-1), c.h, 5, 4)
		if !slices.Equal(l, c.want) || e != c.e || e != api.OK && f != e || e == api.OK && f != api.ErrRange {
			t.Error(i, l, e, f)
		}
	}
	for i, c := range []struct {
		from, to int
		want     bool
		e        api.Errno
	}{{5, 22, true, api.OK}, {5, 23, false, api.OK}, {22, 22, true, api.OK}, {4, 6, false, api.OK}, {30, 40, true, api.OK}, {21, 31, false, api.OK}, {-1, 5, false, api.ErrRange}, {6, 5, false, api.ErrRange}, {6, 1<<40 + 1, false, api.ErrRange}} {
		if got, e := Covers(state(-1), h, c.from, c.to); got != c.want || e != c.e {
			t.Error(i, got, e)
		}
	}
	k := state(-1)
	at := 0
	for i, s := range h {
		l, _ := Stretches(k, h[:i+1])
		k, _, _ = Present(k, s.Key, s.Tick)
		at = s.Tick
		for tick := at; tick < 60; tick++ {
			in := slices.ContainsFunc(l, func(s api.Stretch) bool { return s.From <= tick && tick < s.To })
			if v, _ := Valid(k, tick); v != in {
				t.Error(i, tick, v, l)
			}
		}
	}
	long := state(-1)
	long.Life = 11
	for tick := range 60 {
		a, _ := Covers(state(-1), h, tick, tick+1)
		if b, _ := Covers(long, h, tick, tick+1); a && !b {
			t.Error(tick)
		}
	}
}

func TestP22Bounds(t *testing.T) {
	for i, k := range []api.KeyState{{Keys: []int{1, 2, 3, 4, 5, 6, 7, 99}, Life: 1, Last: -1}, {Life: 100000, Last: 0}} {
		if e := Check(k); e != api.OK {
			t.Error(i, e)
		}
	}
	for _, key := range []int{1, 99} {
		if _, known, e := Present(state(-1), key, 0); known || e != api.OK {
			t.Error(key, known, e)
		}
		if _, e := Stretches(state(-1), stamps(0, key)); e != api.OK {
			t.Error(key, e)
		}
	}
	if l, e := Stretches(state(-1), stamps(5, 7, 5, 42)); !slices.Equal(l, []api.Stretch{{From: 5, To: 15}}) || e != api.OK {
		t.Error(l, e)
	}
	if _, e := Stretches(state(-1), slices.Repeat(stamps(5, 7), 2000)); e != api.OK {
		t.Error(e)
	}
	for _, c := range [][2]int{{0, 0}, {0, 10}, {1 << 40, 1 << 40}} {
		if got, e := Covers(state(-1), stamps(0, 7), c[0], c[1]); !got || e != api.OK {
			t.Error(c, got, e)
		}
	}
}
