package nat

import (
	"math/bits"
	"slices"
)

// Gcd is the greatest number by which both can be divided; that of 0 and x is x.
func Gcd(x, y Nat) Nat {
	order := x.Cmp(y)
	if order < 0 {
		x, y = y, x
	}
	if order == 0 || len(y) == 0 {
		return x
	}
	if y.One() {
		return y
	}
	if len(y) > 1 { // own words, since steps are taken in their place
		x, y = slices.Clone(x), slices.Clone(y)
	}
	for len(y) > 1 {
		x, y = lessened(x, y)
	}
	if len(y) == 0 {
		return x
	}
	_, rem := x.byWord(y[0])
	return Of(GcdWords(y[0], rem))
}

// GcdWords is the same of words.
func GcdWords(x, y uint64) uint64 {
	for y != 0 {
		x, y = y, x%y
	}
	return x
}

// lessened are two lesser numbers with the same divisors in common, the greater one first, as x and y are, which it may write into.
func lessened(x, y Nat) (Nat, Nat) {
	if len(x)-len(y) < 2 {
		if s := stepsOf(x, y); s.xy != 0 {
			return s.taken(x, y)
		}
	}
	_, rem := x.QuoRem(y)
	return y, rem
}

// steps are several steps of Euclid's at once (Lehmer): x and y become xx x - xy y and yy y - yx x; if back, both with the other sign.
type steps struct {
	xx, xy, yx, yy uint64
	back           bool
}

// stepsOf are as many steps as the leading 64 bits of x, and those of y at the same places, tell for certain (by Collins's condition, which also keeps the numbers within half a word). There are none, if xy is 0. y has two words at least, x at most one more.
func stepsOf(x, y Nat) steps {
	top := len(x) - 1
	n := bits.LeadingZeros64(x[top])
	a := x[top]<<n | x[top-1]>>(wordBits-n)
	b := y[top-1] >> (wordBits - n)
	if len(y) == len(x) {
		b |= y[top] << n
	}
	s := steps{xx: 1, yy: 1}
	for b != 0 {
		q := a / b
		next := steps{s.yx, s.yy, s.xx + q*s.yx, s.xy + q*s.yy, !s.back}
		a, b = b, a-q*b
		if b < next.yy || a-b < next.xy+next.yy {
			break
		}
		s = next
	}
	return s
}

// taken are the numbers behind the steps, written over x and y. Neither is above y, so that the words that x has beyond those of y do not count.
func (s steps) taken(x, y Nat) (Nat, Nat) {
	p, q := x[:len(y)], y
	if s.back {
		p, q = q, p
		s = steps{xx: s.xy, xy: s.xx, yx: s.yy, yy: s.yx}
	}
	var up, down, left, right, borrow, owed uint64
	for i := range p {
		var plus, minus uint64
		a, b := p[i], q[i]
		plus, up = timesPlus(s.xx, a, up)
		minus, down = timesPlus(s.xy, b, down)
		p[i], borrow = bits.Sub64(plus, minus, borrow)
		plus, right = timesPlus(s.yy, b, right)
		minus, left = timesPlus(s.yx, a, left)
		q[i], owed = bits.Sub64(plus, minus, owed)
	}
	return trimmed(p), trimmed(q)
}
