// Package fix computes with integers exactly, within limits.
package fix

import (
	"math/bits"

	"tipstaff/api"
)

// wide is an exact integer in two words, as a complement of two: no sum or product of ints leaves it.
type wide struct {
	hi uint64
	lo uint64
}

func widen(n int) wide {
	return wide{hi: uint64(n >> 63), lo: uint64(n)}
}

func (w *wide) add(x wide) {
	lo, carry := bits.Add64(w.lo, x.lo, 0)
	hi, _ := bits.Add64(w.hi, x.hi, carry)
	w.hi, w.lo = hi, lo
}

func (w *wide) negate() {
	w.hi, w.lo = ^w.hi, ^w.lo
	w.add(widen(1))
}

// split divides a number that is not negative, and leaves the quotient rounded down.
func (w *wide) split(by uint64) (rest uint64) {
	hi := w.hi / by
	w.lo, rest = bits.Div64(w.hi%by, w.lo, by)
	w.hi = hi
	return rest
}

func (w wide) within(l api.Within) (int, api.Errno) {
	n := int(w.lo)
	if widen(n) != w || n < l.Low || n > l.High {
		return 0, api.ErrOver
	}
	return n, api.OK
}

// outward reports whether a quotient that lost a rest has to move one away from zero.
func (w wide) outward(rest, by uint64, negative bool, how int) bool {
	switch how {
	case api.Near:
		if rest != by-rest {
			return rest > by-rest
		}
		return w.lo&1 == 1
	case api.Up:
		negative = !negative
		fallthrough
	case api.Down:
		return negative
	}
	return false
}

func magnitude(n int) uint64 {
	if n < 0 {
		return -uint64(n)
	}
	return uint64(n)
}

func product(a, b int) wide {
	hi, lo := bits.Mul64(magnitude(a), magnitude(b))
	w := wide{hi: hi, lo: lo}
	if (a < 0) != (b < 0) {
		w.negate()
	}
	return w
}

func total(l ...int) wide {
	var w wide
	for _, n := range l {
		w.add(widen(n))
	}
	return w
}

// Check returns ErrRange unless the limits are valid.
func Check(w api.Within) api.Errno {
	if w.Low > w.High {
		return api.ErrRange
	}
	return api.OK
}

func bounded(w api.Within, n wide) (int, api.Errno) {
	if e := Check(w); e != api.OK {
		return 0, e
	}
	return n.within(w)
}

// Add returns the sum of a and b.
func Add(w api.Within, a, b int) (int, api.Errno) {
	return bounded(w, total(a, b))
}

// Sub returns a less b.
func Sub(w api.Within, a, b int) (int, api.Errno) {
	n := widen(b)
	n.negate()
	n.add(widen(a))
	return bounded(w, n)
}

// Mul returns the product of a and b.
func Mul(w api.Within, a, b int) (int, api.Errno) {
	return bounded(w, product(a, b))
}

// Div returns the quotient of a by b, rounded as how says.
func Div(w api.Within, a, b, how int) (int, api.Errno) {
	return Scale(w, a, 1, b, how)
}

// Scale returns the quotient of the product of a and b by c, rounded as how says.
func Scale(w api.Within, a, b, c, how int) (int, api.Errno) {
	if e := Check(w); e != api.OK {
		return 0, e
	}
	if how < api.Down || how > api.Near {
		return 0, api.ErrKind
	}
	if c == 0 {
		return 0, api.ErrRange
	}
	n := product(a, b)
	negative := n.hi>>63 == 1
	if negative {
		n.negate()
	}
	negative = negative != (c < 0)
	by := magnitude(c)
	rest := n.split(by)
	if rest != 0 && n.outward(rest, by, negative, how) {
		n.add(widen(1))
	}
	if negative {
		n.negate()
	}
	return n.within(w)
}

// Sum returns the sum of the numbers.
func Sum(w api.Within, l []int) (int, api.Errno) {
	if e := Check(w); e != api.OK {
		return 0, e
	}
	if len(l) > api.MaxSum {
		return 0, api.ErrLong
	}
	return total(l...).within(w)
}

// Clamp returns the number within the limits that is nearest to n.
func Clamp(w api.Within, n int) (int, api.Errno) {
	if e := Check(w); e != api.OK {
		return 0, e
	}
	return max(w.Low, min(w.High, n)), api.OK
}

// Split returns parts numbers whose sum is n, as equal as they can be, the greater ones first.
func Split(n, parts int) ([]int, api.Errno) {
	if n < 0 || parts < 1 || parts > api.MaxSum {
		return nil, api.ErrRange
	}
	l := make([]int, parts)
	for i := range l {
		l[i] = n / parts
		if i < n%parts {
			l[i]++
		}
	}
	return l, api.OK
}
