package ring

import (
	"reflect"
	"slices"
	"testing"

	"tipstaff/api"
)

func filled(t *testing.T, size int, what ...int) api.Ring {
	r, e := New(size)
	for i, w := range what {
		var n uint64
		r, n, e = Put(r, w)
		if e != api.OK || n != uint64(i+1) {
			t.Fatal(n, e)
		}
	}
	return r
}

func TestP5_1(t *testing.T) {
	for _, n := range []int{0, 33, -1} {
		if r, e := New(n); e != api.ErrRange || !reflect.DeepEqual(r, api.Ring{}) {
			t.Error(n, r, e)
		}
	}
	if r, e := New(32); e != api.OK || r.Cap != 32 || r.Next != 1 || len(r.L) != 0 {
		t.Error(r, e)
	}
	held := func(n ...uint64) []api.Held {
		var l []api.Held
		for _, x := range n {
			l = append(l, api.Held{Number: x})
		}
		return l
	}
	for i, c := range []struct {
		r  api.Ring
		e  api.Errno
		at int
	}{
		{api.Ring{Cap: 3, Next: 4, L: held(1, 2, 3)}, api.OK, 0}, {api.Ring{Cap: 0, Next: 0}, api.ErrRange, 0}, {api.Ring{Cap: 33, Next: 1}, api.ErrRange, 0}, {api.Ring{Cap: 3, Next: 0}, api.ErrRange, 0}, {api.Ring{Cap: 3, Next: 1<<40 + 2}, api.ErrRange, 0}, {api.Ring{Cap: 3, Next: 1<<40 + 1}, api.OK, 0},
		{api.Ring{Cap: 1, Next: 9, L: held(0, 2)}, api.ErrFull, 0}, {api.Ring{Cap: 3, Next: 4, L: held(2, 1)}, api.ErrOrder, 1}, {api.Ring{Cap: 3, Next: 4, L: held(4)}, api.ErrRange, 0}, {api.Ring{Cap: 3, Next: 4, L: held(1, 0)}, api.ErrRange, 1}, {api.Ring{Cap: 3, Next: 4, L: held(1, 1)}, api.ErrOrder, 1}, {api.Ring{Cap: 3, Next: 4, L: held(1, 2, 9)}, api.ErrRange, 2},
	} {
		if e, at := Check(c.r); e != c.e || at != c.at {
			t.Error(i, e, at)
		}
		if c.e == api.OK {
			continue
		}
		_, _, a := Put(c.r, 1)
		_, b := First(c.r, 1)
		_, d := Find(c.r, 1)
		_, _, f := Drop(c.r, 1)
		_, _, g := Wipe(c.r, nil)
		_, h := Rest(c.r)
		_, j := Age(c.r, 1)
		if got := []api.Errno{a, b, d, f, g, h, j}; slices.ContainsFunc(got, func(e api.Errno) bool { return e != c.e }) {
			t.Error(i, got)
		}
	}
}

func TestP5_2_P5_5_P5_7(t *testing.T) {
	r := filled(t, 3, 7, 8, 7)
	if n, e := Rest(r); n != 0 || e != api.OK || r.Next != 4 {
		t.Error(n, e, r)
	}
	if q, n, e := Put(r, 1); e != api.ErrFull || n != 0 || q.Cap != 0 {
		t.Error(q, n, e)
	}
	if q, n, e := Put(api.Ring{Cap: 2, Next: 1<<40 + 1}, 1); e != api.ErrOver || n != 0 || q.Cap != 0 {
		t.Error(q, n, e)
	}
	if q, n, e := Put(api.Ring{Cap: 2, Next: 1 << 40}, 1); e != api.OK || n != 1<<40 || q.Next != 1<<40+1 {
		t.Error(q, n, e)
	}
	r, h, e := Drop(r, 2)
	if h != (api.Held{Number: 2, What: 8}) || e != api.OK {
		t.Error(h, e)
	}
	if n, _ := Rest(r); n+len(r.L) != 3 {
		t.Error(n)
	}
	r, n, e := Put(r, 9)
	if n != 4 || e != api.OK || !slices.Equal(r.L, []api.Held{{Number: 1, What: 7}, {Number: 3, What: 7}, {Number: 4, What: 9}}) {
		t.Error(r, n, e)
	}
}

func TestP5_3_P5_6_P5_9(t *testing.T) {
	r := api.Ring{Cap: 4, Next: 5, L: []api.Held{{Number: 1, What: 7}, {Number: 3, What: 7}, {Number: 4, What: 9}}}
	if h, e := First(r, 7); h.Number != 1 || e != api.OK {
		t.Error(h, e)
	}
	if h, e := First(r, 8); h != (api.Held{}) || e != api.ErrMissing {
		t.Error(h, e)
	}
	for i, c := range []struct {
		n   uint64
		at  int
		age uint64
		e   api.Errno
	}{{4, 2, 0, api.OK}, {1, 0, 3, api.OK}, {3, 1, 1, api.OK}, {2, 0, 0, api.ErrMissing}, {0, 0, 0, api.ErrMissing}, {9, 0, 0, api.ErrMissing}} {
		at, e := Find(r, c.n)
		age, f := Age(r, c.n)
		if at != c.at || e != c.e || age != c.age || f != c.e {
			t.Error(i, at, e, age, f)
		}
	}
	if q, h, e := Drop(r, 2); e != api.ErrMissing || h != (api.Held{}) || q.Cap != 0 {
		t.Error(q, h, e)
	}
	q, _, _ := Put(r, 5)
	if age, _ := Age(q, 1); age != 4 {
		t.Error(age)
	}
	d, _, _ := Drop(q, 3)
	if age, _ := Age(d, 1); age != 4 || d.L[1].Number != 4 || q.L[1].Number != 3 || r.L[2].Number != 4 {
		t.Error(age, d, q)
	}
	q.L[0].What = 99
	if r.L[0].What != 7 || d.L[0].What != 7 {
		t.Error("shared memory")
	}
}

func TestP5_4_P5_8(t *testing.T) {
	r := filled(t, 5, 7, 9, 7, 4)
	q, wiped, e := Wipe(r, []int{7, 5, 7})
	if e != api.OK || !slices.Equal(q.L, []api.Held{{Number: 2, What: 9}, {Number: 4, What: 4}}) || !slices.Equal(wiped, []api.Held{{Number: 1, What: 7}, {Number: 3, What: 7}}) || q.Next != 5 || len(r.L) != 4 {
		t.Error(q, wiped, e)
	}
	if _, e := First(q, 7); e != api.ErrMissing {
		t.Error(e)
	}
	if q, wiped, e := Wipe(r, nil); e != api.OK || !slices.Equal(q.L, r.L) || len(wiped) != 0 {
		t.Error(q, wiped, e)
	}
}

func TestP5Bounds(t *testing.T) {
	if r, e := New(1); e != api.OK || r.Cap != 1 {
		t.Error(r, e)
	}
	for size, want := range map[int]api.Errno{1: api.OK, 32: api.OK} {
		if e, _ := Check(api.Ring{Cap: size, Next: 1}); e != want {
			t.Error(size, e)
		}
	}
}
