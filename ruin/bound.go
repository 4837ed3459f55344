package ruin

import (
	"slices"
	"sort"

	"tontine/api"
	"tontine/claims"
	"tontine/frac"
	"tontine/whole"
)

// mostBase is the greatest r that Best may answer.
const mostBase = 64

// Safe says whether Lundberg's bound holds with r: whether the mean of r to the power of what a year takes more than it brings is at most 1. (Then ruin is at most as likely as r to the power of less the start.)
func Safe(income int, l claims.Law, r frac.Frac) (bool, error) {
	if err := check(l, from0(income, mostIncome)); err != nil {
		return false, err
	}
	if r.Cmp(frac.Whole(1)) < 0 {
		return false, api.ErrRange
	}
	under := whole.Common([]frac.Frac{r})
	return safe(excess(income, l), r.Mul(under), under), nil
}

// Best is the greatest r from 1 to 64, of the multiples of 2 to the power of -bits, with which the bound holds.
func Best(income int, l claims.Law, bits int) (frac.Frac, error) {
	if err := check(l, from0(income, mostIncome)); err != nil {
		return frac.Frac{}, err
	}
	if !from0(bits, mostBits) {
		return frac.Frac{}, api.ErrRange
	}
	factors, unit := excess(income, l), 1<<bits
	// the mean is 1 with r = 1, and bends upward, as each power of r does: from the first r on with which the bound fails, it fails
	beyond := sort.Search((mostBase-1)*unit, func(n int) bool {
		return !safe(factors, frac.Whole(unit+1+n), frac.Whole(unit))
	})
	return frac.Of(unit+beyond, unit)
}

// excess has whole factors of the powers of r, from 0 on: their sum is above 0 where the mean of r^claim is above r^income.
func excess(income int, l claims.Law) []frac.Frac {
	under := whole.Common(l)
	factors := make([]frac.Frac, max(len(l), income+1))
	copy(factors, whole.Times(l, under))
	factors[income] = factors[income].Sub(under)
	return factors
}

// safe tells whether such a sum is at most 0 with r = over / under. (From the highest power down, multiplied by under to that power, so that all numbers are whole.)
func safe(factors []frac.Frac, over, under frac.Frac) bool {
	var sum frac.Frac
	power := frac.Whole(1)
	for _, factor := range slices.Backward(factors) {
		sum = sum.Mul(over).Add(factor.Mul(power))
		power = power.Mul(under)
	}
	return sum.Sign() <= 0
}
