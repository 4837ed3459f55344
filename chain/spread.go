package chain

import (
	"tontine/api"
	"tontine/frac"
)

// Spread is how likely each state is at the end of some years, where each is so likely at their beginning.
func (c *Chain) Spread(start []frac.Frac, from, to int) ([]frac.Frac, error) {
	if !c.lasts(from, to) {
		return nil, api.ErrRange
	}
	if err := checkRow(start, c.states); err != nil {
		return nil, err
	}
	end := c.led(rowOf(start), from, to)
	chances := make([]frac.Frac, c.states)
	for k := range c.states {
		chances[k] = divided(end.over[k], end.under)
	}
	return chances, nil
}

// led is how likely each state is at a time, where each is so likely at an earlier one.
func (c *Chain) led(now row, from, to int) row {
	for _, y := range c.years[from:to] {
		now = now.behind(y)
	}
	return now
}

// alone is how likely each state is, where one is for certain.
func (c *Chain) alone(state int) row {
	over := make([]frac.Frac, c.states)
	over[state] = frac.Whole(1)
	return row{over, frac.Whole(1)}
}

// Prob is how likely a state is at the end of some years, if another one is at their beginning.
func (c *Chain) Prob(i, k, from, to int) (frac.Frac, error) {
	if !c.has(i) || !c.has(k) || !c.lasts(from, to) {
		return frac.Frac{}, api.ErrRange
	}
	end := c.led(c.alone(i), from, to)
	return divided(end.over[k], end.under), nil
}

// Visits is in how many of some years a state is at the beginning, in the mean.
func (c *Chain) Visits(i, k, from, to int) (frac.Frac, error) {
	if !c.has(i) || !c.has(k) || !c.lasts(from, to) {
		return frac.Frac{}, api.ErrRange
	}
	now := c.alone(i)
	var visits frac.Frac // over the row's lower number, as it grows
	for _, y := range c.years[from:to] {
		visits = visits.Add(now.over[k]).Mul(y.under)
		now = now.behind(y)
	}
	return divided(visits, now.under), nil
}

// Hits is how likely a state is one at least, at the beginning of some years or at their end.
func (c *Chain) Hits(i, k, from, to int) (frac.Frac, error) {
	if !c.has(i) || !c.has(k) || !c.lasts(from, to) {
		return frac.Frac{}, api.ErrRange
	}
	// who has been in k is left out, and so counts once
	missed := c.alone(i)
	missed.over[k] = frac.Frac{}
	for _, y := range c.years[from:to] {
		missed = missed.behind(y)
		missed.over[k] = frac.Frac{}
	}
	return frac.Whole(1).Sub(divided(sum(missed.over), missed.under)), nil
}
