// Package frac: exact fractions.
package frac

import (
	"tontine/api"
	"tontine/nat"
)

// Frac is a fraction, which never changes; its zero value is 0. It is always lowered, and large only where words don't do, so that each fraction has one form alone.
type Frac struct {
	below bool   // below 0
	over  uint64 // the upper number, without its sign
	less  uint64 // the lower number less 1, for the zero value's sake
	large *pair  // both, where they are greater than words
}

// pair is an upper and a lower number.
type pair struct{ over, under nat.Nat }

// Whole is a whole number.
func Whole(n int) Frac {
	return Frac{below: n < 0, over: size(n)}
}

// Of is one number divided by another one.
func Of(over, under int) (Frac, error) {
	if under == 0 {
		return Frac{}, api.ErrZero
	}
	x, y := size(over), size(under)
	common := nat.GcdWords(x, y)
	return ofWords((over < 0) != (under < 0), x/common, y/common), nil
}

// size is a number without its sign. (The sign is turned behind the change of kind: the least int has no counterpart.)
func size(n int) uint64 {
	if n < 0 {
		return -uint64(n)
	}
	return uint64(n)
}

// ofWords is a fraction of lowered words.
func ofWords(below bool, over, under uint64) Frac {
	return Frac{below: below && over != 0, over: over, less: under - 1}
}

// ofLowered is a fraction of lowered numbers.
func ofLowered(below bool, over, under nat.Nat) Frac {
	x, small := over.Word()
	y, smallToo := under.Word()
	if small && smallToo {
		return ofWords(below, x, y)
	}
	return Frac{below: below, large: &pair{over, under}}
}

// ofNumbers is a fraction of numbers that may have divisors in common; under is not 0.
func ofNumbers(below bool, over, under nat.Nat) Frac {
	common := nat.Gcd(over, under)
	return ofLowered(below, over.Quo(common), under.Quo(common))
}

// numbers are the upper number without its sign, and the lower one.
func (f Frac) numbers() (over, under nat.Nat) {
	if f.large != nil {
		return f.large.over, f.large.under
	}
	return nat.Of(f.over), nat.Of(f.under())
}

// under is the lower number of a fraction that is not large.
func (f Frac) under() uint64 { return f.less + 1 }

// whole tells whether a fraction is a whole number.
func (f Frac) whole() bool {
	if f.large != nil {
		return f.large.under.One()
	}
	return f.less == 0
}

// Neg is the other sign's.
func (f Frac) Neg() Frac {
	f.below = !f.below && f.Sign() != 0
	return f
}

// Sign is -1, 0 or 1.
func (f Frac) Sign() int {
	switch {
	case f.below:
		return -1
	case f.over == 0 && f.large == nil:
		return 0
	}
	return 1
}

// abs is a fraction without its sign.
func (f Frac) abs() Frac {
	f.below = false
	return f
}

// Int is a whole number, if it is one that an int can be.
func (f Frac) Int() (int, bool) {
	switch {
	case f.large != nil || f.less != 0:
		return 0, false
	case f.below && f.over <= 1<<63:
		return int(-f.over), true
	case !f.below && f.over < 1<<63:
		return int(f.over), true
	}
	return 0, false
}
