package chain

import (
	"tontine/api"
	"tontine/frac"
)

// Steady is how likely each state is, where that stays the same from year to year; ErrMany: there are several closed classes.
func Steady(m Matrix) ([]frac.Frac, error) {
	of, closed, err := Classes(m)
	if err != nil {
		return nil, err
	}
	var states []int // of the closed class; there always is one
	for i := range len(m) {
		if !closed[i] {
			continue
		}
		states = append(states, i)
		if of[i] != states[0] {
			return nil, api.ErrMany
		}
	}
	// a state of no closed class is left for good at last: it has no part
	steady := make([]frac.Frac, len(m))
	for i, chance := range balanced(part(m, states)) {
		steady[states[i]] = chance
	}
	return steady, nil
}

// part is the matrix of some states alone.
func part(m Matrix, states []int) Matrix {
	out := make(Matrix, len(states))
	for i, from := range states {
		for _, to := range states {
			out[i] = append(out[i], m[from][to])
		}
	}
	return out
}

// balanced is the row of chances that a year leaves as it is, of states that all come behind each other; it writes into the matrix. State by state, the last one first, is taken out: who would go there goes at once to where one goes from there (Grassmann, Taksar, Heyman).
func balanced(m Matrix) []frac.Frac {
	for last := len(m) - 1; last > 0; last-- {
		away := sum(m[last][:last]) // above 0: those ahead can come behind it
		for i := range last {
			m[i][last] = divided(m[i][last], away)
			for k := range last {
				m[i][k] = m[i][k].Add(m[i][last].Mul(m[last][k]))
			}
		}
	}
	// how often each is there while the first one is there once
	often := make([]frac.Frac, len(m))
	often[0] = frac.Whole(1)
	for k := range len(m) {
		for i := range k {
			often[k] = often[k].Add(often[i].Mul(m[i][k]))
		}
	}
	all := sum(often)
	for i := range len(m) {
		often[i] = divided(often[i], all)
	}
	return often
}
