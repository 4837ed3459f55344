package cover

import "tontine/frac"

// nothing is paid in a state.
func nothing(int) frac.Frac { return frac.Frac{} }

// benefits are what is paid out.
func (t terms) benefits() paid {
	return paid{
		stay: func(state int) frac.Frac { return t.stay[state] },
		move: func(from, to int) frac.Frac { return t.move[from][to] },
		end:  func(state int) frac.Frac { return t.end[state] },
	}
}

// premiums are premiums of one unit, which are paid in.
func (t terms) premiums() paid {
	return paid{
		stay: func(state int) frac.Frac { return t.pay[state] },
		move: func(int, int) frac.Frac { return frac.Frac{} },
		end:  nothing,
	}
}

// ahead is what is paid from a time on, in the mean, worth then, if one is in a state then.
func (t terms) ahead(p paid, time, state int) (frac.Frac, error) {
	if err := t.asked(time, state); err != nil {
		return frac.Frac{}, err
	}
	return t.worth(t.years[time:], state, p), nil
}

// worth is what is paid over some years, in the mean, worth at their beginning, if one is in a state then.
func (t terms) worth(years []year, state int, p paid) frac.Frac {
	return back(years, len(t.stay), p)[0].of(state)
}

// Benefits is what is still to be paid out, in the mean, worth at the beginning of a year, in a state.
func (c *Cover) Benefits(year, state int) (frac.Frac, error) {
	return c.kept.ahead(c.kept.benefits(), year, state)
}

// Premiums is what premiums of one unit are worth that are still to be paid.
func (c *Cover) Premiums(year, state int) (frac.Frac, error) {
	return c.kept.ahead(c.kept.premiums(), year, state)
}

// Premium is the one by which both are worth the same at the start.
func (c *Cover) Premium() (frac.Frac, error) {
	benefits, _ := c.Benefits(0, c.kept.start)
	premiums, _ := c.Premiums(0, c.kept.start)
	return benefits.Div(premiums)
}

// Reserve is what has to be there at the beginning of a year in a state, by what is to come.
func (c *Cover) Reserve(premium frac.Frac, year, state int) (frac.Frac, error) {
	benefits, err := c.Benefits(year, state)
	if err != nil {
		return frac.Frac{}, err
	}
	premiums, _ := c.Premiums(year, state)
	return benefits.Sub(premium.Mul(premiums)), nil
}

// Saved is what is there at the beginning of a year, in the mean of all states, by what has been: premiums less what was paid out, grown.
func (c *Cover) Saved(premium frac.Frac, year int) (frac.Frac, error) {
	t := c.kept
	if err := t.askedTime(year); err != nil {
		return frac.Frac{}, err
	}
	benefits := t.benefits()
	benefits.end = nothing // at the end of the last year it is still to come, as Reserve has it
	past := t.years[:year]
	in, out := t.worth(past, t.start, t.premiums()), t.worth(past, t.start, benefits)
	return divided(premium.Mul(in).Sub(out), t.discounts[year]), nil
}
