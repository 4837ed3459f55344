package frac

import (
	"tontine/api"
	"tontine/nat"
)

// Floor is rounded down.
func (f Frac) Floor() Frac {
	if f.whole() {
		return f
	}
	if f.large == nil {
		n := f.over / f.under()
		if f.below {
			n++
		}
		return ofWords(f.below, n, 1)
	}
	n := f.large.over.Quo(f.large.under)
	if f.below {
		n = n.Add(nat.Of(1))
	}
	return ofLowered(f.below, n, nat.Of(1))
}

// Round is the nearest multiple of a unit, of two the even one.
func (f Frac) Round(unit Frac) (Frac, error) {
	if unit.Sign() <= 0 {
		return Frac{}, api.ErrArg
	}
	return f.Mul(unit.turned()).nearest().Mul(unit), nil
}

// nearest is the nearest whole number, of two the even one.
func (f Frac) nearest() Frac {
	low := f.Floor()
	twice := f.Sub(low).Mul(Whole(2))
	order := twice.Cmp(Whole(1))
	if order > 0 || order == 0 && low.odd() {
		return low.Add(Whole(1))
	}
	return low
}

// odd tells whether the upper number is odd.
func (f Frac) odd() bool {
	if f.large != nil {
		return f.large.over.Odd()
	}
	return f.over&1 == 1
}
