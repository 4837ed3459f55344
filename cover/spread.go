package cover

import "tontine/frac"

// Spread is the variance of all that is lost (what is paid out less premiums, worth at the start), and of each year its share: the mean of the square of what the year brings unlooked for, worth at the start.
func (c *Cover) Spread(premium frac.Frac) (frac.Frac, []frac.Frac) {
	t := c.kept
	p := t.losses(premium)
	reserves := back(t.years, len(t.stay), p)
	now := t.atStart()
	var all frac.Frac      // the whole numbers of all parts, over one lower number
	often := frac.Whole(1) // as this is so often that of the next part
	parts := make([]frac.Frac, len(t.years))
	for i, y := range t.years {
		part := y.unlooked(now, reserves[i+1], p)
		parts[i] = divided(part, now.under.Mul(squared(reserves[i].under)))
		all = all.Add(part.Mul(often))
		often = often.Mul(y.under)
		now = y.behind(now)
	}
	return divided(all, squared(reserves[0].under)), parts
}

// squared is a number times itself.
func squared(f frac.Frac) frac.Frac { return f.Mul(f) }

// losses are what is paid out less premiums.
func (t terms) losses(premium frac.Frac) paid {
	p := t.benefits()
	p.stay = func(state int) frac.Frac { return t.stay[state].Sub(premium.Mul(t.pay[state])) }
	return p
}

// atStart is how likely each state is at the start.
func (t terms) atStart() row {
	over := make([]frac.Frac, len(t.stay))
	over[t.start] = frac.Whole(1)
	return row{over, frac.Whole(1)}
}

// behind is how likely each state is at a year's end, as now has it at its beginning, times the square of the discount.
func (y year) behind(now row) row {
	next := row{make([]frac.Frac, len(now.over)), now.under.Mul(y.under).Mul(squared(y.grown))}
	for i := range len(now.over) {
		weight := now.over[i].Mul(squared(y.worth))
		for k, chance := range y.from(i) {
			next.over[k] = next.over[k].Add(weight.Mul(chance))
		}
	}
	return next
}

// unlooked is the mean of the square of what a year brings unlooked for, over now's lower number times the square of that of the reserves at its beginning. What is looked for is the mean of what is there at its end (Thiele), and so that is a variance.
func (y year) unlooked(now, next row, p paid) frac.Frac {
	var all frac.Frac
	for i := range len(now.over) {
		if now.over[i].Sign() == 0 {
			continue
		}
		var mean, square frac.Frac
		for k, chance := range y.from(i) {
			amount := p.atEnd(next, i, k)
			weighed := chance.Mul(amount)
			mean, square = mean.Add(weighed), square.Add(weighed.Mul(amount))
		}
		variance := square.Mul(y.under).Sub(squared(mean))
		all = all.Add(now.over[i].Mul(variance))
	}
	return all.Mul(squared(y.worth))
}
