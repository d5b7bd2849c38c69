package fix

import (
	"math/big"
	"slices"
	"testing"

	"tipstaff/api"
)

const most = 1<<63 - 1

var (
	ten   = api.Within{Low: -10, High: 10}
	all   = api.Within{Low: -most - 1, High: most}
	wrong = api.Within{Low: 3, High: 2}
	odd   = []int{0, 1, -1, 2, -2, 3, 5, -7, 10, 11, 1 << 32, -(1 << 32), 1 << 62, most, most - 1, -most, -most - 1}
)

func inside(w api.Within, n *big.Int) (int, api.Errno) {
	if n.Cmp(big.NewInt(int64(w.Low))) < 0 || n.Cmp(big.NewInt(int64(w.High))) > 0 {
		return 0, api.ErrOver
	}
	return int(n.Int64()), api.OK
}

func TestP1_1(t *testing.T) {
	if Check(wrong) != api.ErrRange || Check(ten) != api.OK || Check(api.Within{Low: 2, High: 2}) != api.OK {
		t.Error("Check")
	}
	_, a := Add(wrong, 1, 1)
	_, b := Sub(wrong, 1, 1)
	_, c := Mul(wrong, 1, 1)
	_, d := Div(wrong, 1, 0, 9)
	_, e := Scale(wrong, 1, 1, 0, 9)
	_, f := Sum(wrong, make([]int, 2000))
	_, g := Clamp(wrong, 1)
	if got := []api.Errno{a, b, c, d, e, f, g}; slices.ContainsFunc(got, func(e api.Errno) bool { return e != api.ErrRange }) {
		t.Error(got)
	}
}

func TestP1_2_P1_6(t *testing.T) {
	for _, w := range []api.Within{ten, all, {Low: 1, High: 9}} {
		for _, a := range odd {
			for _, b := range odd {
				x, y := big.NewInt(int64(a)), big.NewInt(int64(b))
				for i, c := range []struct {
					f    func(api.Within, int, int) (int, api.Errno)
					want *big.Int
				}{{Add, new(big.Int).Add(x, y)}, {Sub, new(big.Int).Sub(x, y)}, {Mul, new(big.Int).Mul(x, y)}} {
					n, e := c.f(w, a, b)
					if m, f := inside(w, c.want); n != m || e != f {
						t.Error(i, a, b, n, e)
					}
				}
			}
		}
	}
	for _, c := range [][2]int{{99, 10}, {-99, -10}, {4, 4}, {10, 10}} {
		if n, e := Clamp(ten, c[0]); n != c[1] || e != api.OK {
			t.Error(c, n, e)
		}
	}
}

// exact is the rounded quotient, found by another way: Euclid's quotient and the rest.
func exact(a, b, c, how int) *big.Int {
	x, y := new(big.Int).Mul(big.NewInt(int64(a)), big.NewInt(int64(b))), big.NewInt(int64(c))
	if c < 0 {
		x.Neg(x)
		y.Neg(y)
	}
	q, r := new(big.Int).DivMod(x, y, new(big.Int))
	twice := new(big.Int).Lsh(r, 1).Cmp(y)
	if how == api.Up && r.Sign() > 0 || how == api.Near && (twice > 0 || twice == 0 && q.Bit(0) == 1) {
		q.Add(q, big.NewInt(1))
	}
	return q
}

func TestP1_3_P1_7_P1_8(t *testing.T) {
	for _, a := range odd {
		for _, b := range odd {
			for _, c := range odd {
				if c == 0 {
					continue
				}
				for how := api.Down; how <= api.Near; how++ {
					n, e := Scale(all, a, b, c, how)
					if m, f := inside(all, exact(a, b, c, how)); n != m || e != f {
						t.Fatal(a, b, c, how, n, e)
					}
				}
				if n, e := Scale(all, a, c, c, api.Near); n != a || e != api.OK {
					t.Fatal(a, c, n, e)
				}
			}
		}
	}
	for i, c := range []struct {
		a, b, how, n int
		e            api.Errno
	}{{7, 2, api.Down, 3, api.OK}, {7, 2, api.Up, 4, api.OK}, {7, 2, api.Near, 4, api.OK}, {-7, 2, api.Down, -4, api.OK}, {-7, 2, api.Up, -3, api.OK}, {-7, 2, api.Near, -4, api.OK}, {5, 2, api.Near, 2, api.OK}, {7, -2, api.Down, -4, api.OK}, {7, 0, api.Down, 0, api.ErrRange}, {7, 2, 4, 0, api.ErrKind}, {7, 0, 0, 0, api.ErrKind}, {99, 9, api.Down, 0, api.ErrOver}} {
		if n, e := Div(ten, c.a, c.b, c.how); n != c.n || e != c.e {
			t.Error(i, n, e)
		}
	}
	if _, e := Div(all, -most-1, -1, api.Down); e != api.ErrOver {
		t.Error(e)
	}
	if _, e := Scale(ten, 1, 1, 0, api.Up); e != api.ErrRange {
		t.Error(e)
	}
}

func TestP1_4(t *testing.T) {
	for i, c := range []struct {
		w api.Within
		l []int
		n int
		e api.Errno
	}{{all, []int{most, 1, -most}, 1, api.OK}, {ten, []int{5, 5, 5, -9}, 6, api.OK}, {api.Within{Low: 1, High: 2}, nil, 0, api.ErrOver}, {ten, nil, 0, api.OK}, {all, make([]int, 1001), 0, api.ErrLong}, {all, make([]int, 1000), 0, api.OK}, {all, []int{most, most}, 0, api.ErrOver}} {
		if n, e := Sum(c.w, c.l); n != c.n || e != c.e {
			t.Error(i, n, e)
		}
	}
}

func TestP1_5_P1_9(t *testing.T) {
	for _, c := range [][2]int{{7, 3}, {2, 3}, {0, 2}, {most, 1000}, {most, 1}, {999, 1000}} {
		l, e := Split(c[0], c[1])
		if e != api.OK || len(l) != c[1] || l[0]-l[len(l)-1] > 1 || !slices.IsSortedFunc(l, func(a, b int) int { return b - a }) {
			t.Error(c, l, e)
		}
		slices.Reverse(l)
		if n, e := Sum(all, l); n != c[0] || e != api.OK {
			t.Error(c, n, e)
		}
	}
	for _, c := range [][2]int{{-1, 2}, {1, 0}, {1, -1}, {1, 1001}} {
		if l, e := Split(c[0], c[1]); l != nil || e != api.ErrRange {
			t.Error(c, l, e)
		}
	}
}

func TestP1_10(t *testing.T) {
	for _, n := range odd {
		m, e := Clamp(ten, n)
		if e != api.OK || m < -10 || m > 10 || n >= -10 && n <= 10 && m != n {
			t.Error(n, m, e)
		}
	}
}

func TestP1Zeros(t *testing.T) {
	a, _ := Add(wrong, 1, 1)
	b, _ := Scale(wrong, 1, 1, 1, 1)
	c, _ := Sum(wrong, []int{1})
	d, _ := Clamp(wrong, 1)
	if a != 0 || b != 0 || c != 0 || d != 0 {
		t.Error(a, b, c, d)
	}
	if n, e := Div(ten, 0, -3, api.Near); n != 0 || e != api.OK {
		t.Error(n, e)
	}
}
