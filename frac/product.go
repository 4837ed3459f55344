package frac

import (
	"math/bits"

	"tontine/api"
	"tontine/nat"
)

// Mul is a product.
func (f Frac) Mul(g Frac) Frac {
	below := f.below != g.below
	if f.large == nil && g.large == nil {
		if product, ok := mulWords(below, f, g); ok {
			return product
		}
	}
	a, b := f.numbers()
	c, d := g.numbers()
	// lowered crosswise ahead of multiplying, the product is lowered
	ad, cb := nat.Gcd(a, d), nat.Gcd(c, b)
	return ofLowered(below, a.Quo(ad).Mul(c.Quo(cb)), b.Quo(cb).Mul(d.Quo(ad)))
}

// mulWords is a product as Mul has it, if its numbers are words.
func mulWords(below bool, f, g Frac) (Frac, bool) {
	b, d := f.under(), g.under()
	ad, cb := nat.GcdWords(d, f.over), nat.GcdWords(b, g.over)
	beyondOver, over := bits.Mul64(f.over/ad, g.over/cb)
	beyondUnder, under := bits.Mul64(b/cb, d/ad)
	return ofWords(below, over, under), beyondOver|beyondUnder == 0
}

// Div is a quotient.
func (f Frac) Div(g Frac) (Frac, error) {
	if g.Sign() == 0 {
		return Frac{}, api.ErrZero
	}
	return f.Mul(g.turned()), nil
}

// turned is 1 divided by a fraction that is not 0.
func (f Frac) turned() Frac {
	if f.large == nil {
		return ofWords(f.below, f.under(), f.over)
	}
	return Frac{below: f.below, large: &pair{f.large.under, f.large.over}}
}

// Pow is a power.
func (f Frac) Pow(n int) (Frac, error) {
	if n < -api.MaxSize || n > api.MaxSize {
		return Frac{}, api.ErrLimit
	}
	if n < 0 {
		if f.Sign() == 0 {
			return Frac{}, api.ErrZero
		}
		f, n = f.turned(), -n
	}
	over, under := f.numbers()
	return ofLowered(f.below && n%2 == 1, over.Pow(n), under.Pow(n)), nil
}
