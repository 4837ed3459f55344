package match

import (
	"slices"

	"tontine/frac"
	"tontine/whole"
)

// growth is what one unit becomes in a year: a whole number over another one.
type growth struct{ over, under frac.Frac }

// growthOf is that by a rate.
func growthOf(rate frac.Frac) growth {
	each := frac.Whole(1).Add(rate)
	under := whole.Common([]frac.Frac{each})
	return growth{each.Mul(under), under}
}

// each is the same as one fraction.
func (g growth) each() frac.Frac { return divided(g.over, g.under) }

// grown is, of each time, what all that was paid up to it has become by then. It is counted in parts, so that whole numbers stay whole.
func (g growth) grown(pay []frac.Frac) []frac.Frac {
	out := make([]frac.Frac, len(pay))
	var there frac.Frac
	for time, parts := range g.parts(len(pay)) {
		there = there.Mul(g.over).Add(pay[time].Mul(parts))
		out[time] = there
	}
	return out
}

// parts is, of each time, how many of them are one unit then.
func (g growth) parts(times int) []frac.Frac {
	out := make([]frac.Frac, times)
	parts := frac.Whole(1)
	for time := range out {
		out[time] = parts
		parts = parts.Mul(g.under)
	}
	return out
}

// cash is held at first as if it were a bond, which pays it back, grown, at the end of the first year.
func (g growth) cash(years int) Bond {
	b := Bond{frac.Whole(1), make([]frac.Frac, years)}
	b.Pays[0] = g.each()
	return b
}

// worths is what one unit of debt more costs in each year: as much as one unit of cash more behind it, and what that grows to more of debt in the next one.
func (g growth) worths(cash []frac.Frac) []frac.Frac {
	out := make([]frac.Frac, len(cash))
	var next frac.Frac
	for year, dear := range slices.Backward(cash) {
		next = next.Mul(g.each()).Add(dear)
		out[year] = next
	}
	return out
}

// divided is a quotient where nothing is divided by 0.
func divided(f, g frac.Frac) frac.Frac {
	q, _ := f.Div(g)
	return q
}
