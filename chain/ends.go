package chain

import (
	"slices"

	"tontine/frac"
)

// Ends are, of each state, how likely it comes at last into the class of each other one, if that is closed (0, if not), and how many years go by until it is in a closed class, in the mean.
func Ends(m Matrix) (Matrix, []frac.Frac, error) {
	of, closed, err := Classes(m)
	if err != nil {
		return nil, nil, err
	}
	ways, years := lastWays(m, closed)
	n := len(m)
	ends := make(Matrix, n)
	for i := range n {
		ends[i] = make([]frac.Frac, n)
		for k := range n {
			if closed[k] {
				ends[i][k] = into(ways[i], of, of[k])
			}
		}
	}
	return ends, years, nil
}

// lastWays tells how likely each state of a closed class is the first one of such into which one comes from each state, and how many years go by until then. (From a state of a closed class: which comes behind it; no years.)
func lastWays(m Matrix, closed []bool) (Matrix, []frac.Frac) {
	n := len(m)
	ways, years := make(Matrix, n), make([]frac.Frac, n)
	for i := range n {
		ways[i] = slices.Clone(m[i])
		if !closed[i] {
			years[i] = frac.Whole(1)
		}
	}
	for i := range n {
		if !closed[i] {
			passOn(ways, years, i)
		}
	}
	return ways, years
}

// passOn takes a state of no closed class out of all ways: who would go there goes at once to where one goes from there, and the years that go by there are counted with theirs.
func passOn(ways Matrix, years []frac.Frac, state int) {
	onward := ways[state]
	away := frac.Whole(1).Sub(onward[state]) // above 0: one can come from there into a closed class
	onward[state] = frac.Frac{}
	for k := range len(onward) {
		onward[k] = divided(onward[k], away)
	}
	years[state] = divided(years[state], away)
	for i := range len(ways) {
		share := ways[i][state]
		ways[i][state] = frac.Frac{}
		for k := range len(onward) {
			ways[i][k] = ways[i][k].Add(share.Mul(onward[k]))
		}
		years[i] = years[i].Add(share.Mul(years[state]))
	}
}

// into is how likely a row of ways leads into a class.
func into(ways []frac.Frac, of []int, class int) frac.Frac {
	var all frac.Frac
	for k := range len(ways) {
		if of[k] == class {
			all = all.Add(ways[k])
		}
	}
	return all
}
