package cover

import (
	"slices"

	"tontine/api"
	"tontine/frac"
	"tontine/whole"
)

// mostPaths is how many ways there may be.
const mostPaths = 2000

// Path is one way on which states may follow each other: how likely it is, and what is lost on it, worth at the start.
type Path struct {
	States []int
	Chance frac.Frac
	Loss   frac.Frac
}

// Paths are all ways that may be, in order of their states; ErrLimit: there are more than 2000.
func (c *Cover) Paths(premium frac.Frac) ([]Path, error) {
	t := c.kept
	if t.tooMany() {
		return nil, api.ErrLimit
	}
	p := t.losses(premium)
	under := whole.Common(t.discounts).Mul(p.under(len(t.stay)))
	turns := t.turns(p, under)
	atLast := t.discounts[len(t.years)].Mul(under)
	var paths []Path
	var walk func(states []int, chance, lost frac.Frac)
	walk = func(states []int, chance, lost frac.Frac) {
		time, state := len(states)-1, states[len(states)-1]
		if time == len(t.years) {
			lost = lost.Add(p.end(state).Mul(atLast))
			paths = append(paths, Path{slices.Clone(states), chance, divided(lost, under)})
			return
		}
		for _, x := range turns[time][state] {
			walk(append(states, x.to), chance.Mul(x.chance), lost.Add(x.lost))
		}
	}
	walk([]int{t.start}, frac.Whole(1), frac.Frac{})
	return paths, nil
}

// tooMany tells whether behind some year there are more ways than there may be.
func (t terms) tooMany() bool {
	ways := make([]int, len(t.stay)) // into each state
	ways[t.start] = 1
	for _, y := range t.years {
		next := make([]int, len(ways))
		all := 0
		for i := range len(ways) {
			for k := range y.from(i) {
				next[k] += ways[i]
				all += ways[i]
			}
		}
		if all > mostPaths {
			return true
		}
		ways = next
	}
	return false
}

// turn is how a way may go on within a year: to which state, how likely, and what is lost by it.
type turn struct {
	to           int
	chance, lost frac.Frac
}

// turns are, of each year and state, all that may be; what is lost, worth at the start, is over one lower number.
func (t terms) turns(p paid, under frac.Frac) [][][]turn {
	turns := make([][][]turn, len(t.years))
	for time, y := range t.years {
		beginning, end := t.discounts[time].Mul(under), t.discounts[time+1].Mul(under)
		turns[time] = make([][]turn, len(t.stay))
		for i := range len(t.stay) {
			for k, chance := range y.from(i) {
				lost := p.stay(i).Mul(beginning).Add(p.move(i, k).Mul(end))
				turns[time][i] = append(turns[time][i], turn{k, divided(chance, y.under), lost})
			}
		}
	}
	return turns
}
