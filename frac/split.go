package frac

import (
	"cmp"
	"slices"

	"tontine/api"
	"tontine/nat"
)

// Split parts a number of units by weights: each gets its share rounded down, and those whose rest is the greatest one unit more, of equal ones the first.
func Split(units int, weights []Frac) ([]int, error) {
	if units < 0 || units > api.MaxUnits || len(weights) > api.MaxText {
		return nil, api.ErrRange
	}
	for _, w := range weights {
		if w.Sign() < 0 {
			return nil, api.ErrArg
		}
	}
	all := sum(weights)
	if all.Sign() == 0 {
		return nil, api.ErrZero
	}
	each := Whole(units).Mul(all.turned())
	shares := cutShares(weights, each)
	left := units
	for _, n := range shares {
		left -= n
	}
	if left > 0 {
		for _, i := range mostCut(weights, shares, each)[:left] {
			shares[i]++
		}
	}
	return shares, nil
}

// sum adds fractions by halves, so that long sums are seldom added to.
func sum(l []Frac) Frac {
	switch len(l) {
	case 0:
		return Frac{}
	case 1:
		return l[0]
	}
	half := len(l) / 2
	return sum(l[:half]).Add(sum(l[half:]))
}

// cutShares are each times the weights, cut off; by bounds of each that are short, where these tell.
func cutShares(weights []Frac, each Frac) []int {
	low, high := each.bounds()
	shares := make([]int, len(weights))
	for i, w := range weights {
		share := w.Mul(low).Floor()
		if share.Cmp(w.Mul(high).Floor()) != 0 {
			share = w.Mul(each).Floor()
		}
		shares[i], _ = share.Int()
	}
	return shares
}

// boundWords is how many words the numbers of a bound have, at least.
const boundWords = 4

// bounds are two fractions near f, which is not below 0: one that is not above it, one that is not below it; of short numbers, as far as leaving out the same lowest words of both numbers makes them so.
func (f Frac) bounds() (Frac, Frac) {
	if f.large == nil {
		return f, f
	}
	n := min(len(f.large.over), len(f.large.under)) - boundWords
	if n <= 0 {
		return f, f
	}
	one := nat.Of(1)
	over, under := f.large.over.High(n), f.large.under.High(n)
	return ofNumbers(false, over, under.Add(one)), ofNumbers(false, over.Add(one), under)
}

// mostCut are the places of weights, those first of whose shares (each times the weight, cut off) the most was cut off, of equal ones the first. Two are held against each other by how far their weights and their shares are apart: what was cut off of one may be as long as all weights together.
func mostCut(weights []Frac, shares []int, each Frac) []int {
	places := make([]int, len(weights))
	for i := range places {
		places[i] = i
	}
	one := each.turned()
	slices.SortFunc(places, func(i, k int) int {
		weight, share := weights[k].Sub(weights[i]), shares[k]-shares[i]
		return cmp.Or(cmpTimes(weight, share, one), i-k)
	})
	return places
}

// cmpTimes compares f with g times n, where g is above 0, without working out the product.
func cmpTimes(f Frac, n int, g Frac) int {
	if n == 0 {
		return f.Sign()
	}
	order := f.Mul(Whole(n).turned()).Cmp(g)
	if n < 0 {
		return -order
	}
	return order
}
