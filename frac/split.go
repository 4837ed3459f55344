package frac

import (
	"cmp"
	"slices"

	"tontine/api"
)

// Split parts a number of units by weights: each gets its share rounded down, and those whose rest is the greatest one unit more, of equal ones the first.
func Split(units int, weights []Frac) ([]int, error) {
	if units < 0 || units > api.MaxUnits || len(weights) > api.MaxText {
		return nil, api.ErrRange
	}
	var all Frac
	for _, w := range weights {
		if w.Sign() < 0 {
			return nil, api.ErrArg
		}
		all = all.Add(w)
	}
	if all.Sign() == 0 {
		return nil, api.ErrZero
	}
	shares := make([]int, len(weights))
	left := units
	each := Whole(units).Mul(all.turned())
	for i, w := range weights {
		shares[i], _ = w.Mul(each).Floor().Int()
		left -= shares[i]
	}
	if left > 0 {
		for _, i := range mostCut(weights, shares, each)[:left] {
			shares[i]++
		}
	}
	return shares, nil
}

// mostCut are the places of weights, those first of whose shares (each times the weight, cut off) the most was cut off, of equal ones the first. Two are held against each other by how far their weights and their shares are apart: what was cut off of one may be as long as all weights together.
func mostCut(weights []Frac, shares []int, each Frac) []int {
	places := make([]int, len(weights))
	for i := range places {
		places[i] = i
	}
	one := each.turned()
	slices.SortFunc(places, func(i, k int) int {
		weight, share := weights[k].Sub(weights[i]), shares[k]-shares[i]
		return cmp.Or(cmpTimes(weight, share, one), i-k)
	})
	return places
}

// cmpTimes compares f with g times n, where g is above 0, without working out the product.
func cmpTimes(f Frac, n int, g Frac) int {
	if n == 0 {
		return f.Sign()
	}
	order := f.Mul(Whole(n).turned()).Cmp(g)
	if n < 0 {
		return -order
	}
	return order
}
