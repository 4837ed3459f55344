package cover

import (
	"iter"
	"slices"

	"tontine/chain"
	"tontine/frac"
	"tontine/whole"
)

// year tells how likely each state comes behind each, in whole numbers over one lower number; and to how many whole units at its end how many at its beginning have grown.
type year struct {
	chances      [][]frac.Frac
	under        frac.Frac
	worth, grown frac.Frac // at its beginning, at its end
}

// yearsOf are a chain's years, by the years' rates.
func yearsOf(c *chain.Chain, rates []frac.Frac) []year {
	years := make([]year, len(rates))
	for t, rate := range rates {
		years[t] = yearOf(steps(c, t), frac.Whole(1).Add(rate))
	}
	return years
}

// yearOf is a year of chances in which one unit grows so.
func yearOf(chances [][]frac.Frac, growth frac.Frac) year {
	y := year{under: whole.Common(chances...), worth: whole.Common([]frac.Frac{growth})}
	y.grown = growth.Mul(y.worth)
	for i := range len(chances) {
		y.chances = append(y.chances, whole.Times(chances[i], y.under))
	}
	return y
}

// steps are how likely each state comes behind each in a year of a chain.
func steps(c *chain.Chain, year int) [][]frac.Frac {
	chances := make([][]frac.Frac, c.States())
	for i := range c.States() {
		chances[i] = make([]frac.Frac, c.States())
		for k := range c.States() {
			chances[i][k], _ = c.Step(year, i, k)
		}
	}
	return chances
}

// from goes through the states that may come behind a state, with how likely each one is, over the year's lower number.
func (y year) from(state int) iter.Seq2[int, frac.Frac] {
	return func(yield func(int, frac.Frac) bool) {
		for k := range len(y.chances) {
			chance := y.chances[state][k]
			if chance.Sign() > 0 && !yield(k, chance) {
				return
			}
		}
	}
}

// paid tells what is paid in a state at the beginning of a year, on the way from one state to another one at its end, and in a state at last.
type paid struct {
	stay, end func(state int) frac.Frac
	move      func(from, to int) frac.Frac
}

// under is the least number by which all that is paid becomes whole.
func (p paid) under(states int) frac.Frac {
	var amounts []frac.Frac
	for i := range states {
		amounts = append(amounts, p.stay(i), p.end(i))
		for k := range states {
			amounts = append(amounts, p.move(i, k))
		}
	}
	return whole.Common(amounts)
}

// row has an amount of each state: whole numbers over one lower number.
type row struct {
	over  []frac.Frac
	under frac.Frac
}

// of is a state's amount.
func (r row) of(state int) frac.Frac { return divided(r.over[state], r.under) }

// divided is a quotient where nothing is divided by 0.
func divided(f, g frac.Frac) frac.Frac {
	q, _ := f.Div(g)
	return q
}

// back goes back over years, from the end of the last one on: of each time, and of each state at that time, what is paid from then on, in the mean, worth then.
func back(years []year, states int, p paid) []row {
	last := row{make([]frac.Frac, states), p.under(states)}
	for k := range states {
		last.over[k] = p.end(k).Mul(last.under)
	}
	rows := make([]row, len(years)+1)
	rows[len(years)] = last
	for t, y := range slices.Backward(years) {
		rows[t] = y.ahead(rows[t+1], p)
	}
	return rows
}

// ahead is what is paid from a year's beginning on, where that is next from its end on.
func (y year) ahead(next row, p paid) row {
	now := row{make([]frac.Frac, len(next.over)), next.under.Mul(y.under).Mul(y.grown)}
	for i := range len(next.over) {
		var mean frac.Frac
		for k, chance := range y.from(i) {
			mean = mean.Add(chance.Mul(p.atEnd(next, i, k)))
		}
		now.over[i] = p.stay(i).Mul(now.under).Add(mean.Mul(y.worth))
	}
	return now
}

// atEnd is what is paid from a year's end on by who went from one state to another one, over next's lower number.
func (p paid) atEnd(next row, from, to int) frac.Frac {
	return p.move(from, to).Mul(next.under).Add(next.over[to])
}
