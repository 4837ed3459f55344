package frac

import (
	"cmp"
	"math/bits"

	"tontine/nat"
)

// Add is a sum.
func (f Frac) Add(g Frac) Frac {
	if f.large == nil && g.large == nil {
		if sum, ok := addWords(f, g); ok {
			return sum
		}
	}
	a, b := f.numbers()
	c, d := g.numbers()
	common := nat.Gcd(b, d)
	rest := b.Quo(common)
	below, over := signedSum(f.below, a.Mul(d.Quo(common)), g.below, c.Mul(rest))
	// what the sum can still be lowered by is in common: all other divisors of b and d miss one side of it
	more := nat.Gcd(over, common)
	return ofLowered(below, over.Quo(more), rest.Mul(d.Quo(more)))
}

// addWords is a sum as Add has it, if all its numbers are words.
func addWords(f, g Frac) (Frac, bool) {
	b, d := f.under(), g.under()
	common := nat.GcdWords(b, d)
	beyondX, x := bits.Mul64(f.over, d/common)
	beyondY, y := bits.Mul64(g.over, b/common)
	below, over, beyond := f.below, x+y, uint64(0)
	switch {
	case f.below == g.below:
		over, beyond = bits.Add64(x, y, 0)
	case x >= y:
		over = x - y
	default:
		below, over = g.below, y-x
	}
	more := nat.GcdWords(common, over)
	beyondUnder, under := bits.Mul64(b/common, d/more)
	return ofWords(below, over/more, under), beyondX|beyondY|beyond|beyondUnder == 0
}

// signedSum is the sum of two numbers with signs.
func signedSum(belowX bool, x nat.Nat, belowY bool, y nat.Nat) (bool, nat.Nat) {
	switch {
	case belowX == belowY:
		return belowX, x.Add(y)
	case x.Cmp(y) >= 0:
		return belowX, x.Sub(y)
	}
	return belowY, y.Sub(x)
}

// Sub is a difference.
func (f Frac) Sub(g Frac) Frac { return f.Add(g.Neg()) }

// Cmp is -1, 0 or 1: below, like, above another one.
func (f Frac) Cmp(g Frac) int {
	if f.Sign() != g.Sign() {
		return cmp.Compare(f.Sign(), g.Sign())
	}
	if f.below {
		f, g = g, f
	}
	return cmpSizes(f, g)
}

// cmpSizes compares without signs.
func cmpSizes(f, g Frac) int {
	if f.large == nil && g.large == nil {
		high, low := bits.Mul64(f.over, g.under())
		highToo, lowToo := bits.Mul64(g.over, f.under())
		return cmp.Or(cmp.Compare(high, highToo), cmp.Compare(low, lowToo))
	}
	a, b := f.numbers()
	c, d := g.numbers()
	return nat.CmpProducts(a, d, c, b)
}
