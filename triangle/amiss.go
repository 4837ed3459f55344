package triangle

import "tontine/frac"

// Spreads are, of each year of growing, how much years are beside its factor.
func Spreads(t Triangle) ([]frac.Frac, error) {
	factors, err := Factors(t)
	if err != nil {
		return nil, err
	}
	return t.spreads(factors)
}

// spreads are those beside factors.
func (t Triangle) spreads(factors []frac.Frac) ([]frac.Frac, error) {
	spreads := make([]frac.Frac, len(factors))
	end := len(factors) - 1
	for k := range end {
		spread, err := spreadOf(t.grown(k), k, factors[k])
		if err != nil {
			return nil, err
		}
		spreads[k] = spread
	}
	spreads[end] = lastSpread(spreads[:end])
	return spreads, nil
}

// spreadOf is how much rows, of which there are two or more, are beside a factor in growing from their k-th number to the next one.
func spreadOf(rows Triangle, k int, factor frac.Frac) (frac.Frac, error) {
	var all frac.Frac
	for _, row := range rows {
		own, err := frac.Of(row[k+1], row[k])
		if err != nil {
			return frac.Frac{}, err
		}
		beside := own.Sub(factor)
		all = all.Add(beside.Mul(beside).Mul(frac.Whole(row[k])))
	}
	return all.Div(frac.Whole(len(rows) - 1))
}

// lastSpread is taken from the two spreads ahead, since only one row is known to have grown so far.
func lastSpread(ahead []frac.Frac) frac.Frac {
	if len(ahead) < 2 {
		return frac.Frac{}
	}
	a, b := ahead[len(ahead)-2], last(ahead)
	on, err := b.Mul(b).Div(a)
	if err != nil { // a is 0, and none is less
		return a
	}
	return lesser(lesser(a, b), on)
}

// lesser is the lesser one.
func lesser(f, g frac.Frac) frac.Frac {
	if f.Cmp(g) <= 0 {
		return f
	}
	return g
}

// Amiss is, of each year, the mean of the square of what its reserve tells amiss (Mack).
func Amiss(t Triangle) ([]frac.Frac, error) {
	factors, err := Factors(t)
	if err != nil {
		return nil, err
	}
	spreads, err := t.spreads(factors)
	if err != nil {
		return nil, err
	}
	amiss := make([]frac.Frac, len(t))
	for i, row := range t.square(factors) {
		var parts frac.Frac
		for k := len(t[i]) - 1; k < len(factors); k++ {
			part, err := partOf(spreads[k], factors[k], row[k], sum(t.grown(k), k))
			if err != nil {
				return nil, err
			}
			parts = parts.Add(part)
		}
		amiss[i] = parts.Mul(last(row)).Mul(last(row))
	}
	return amiss, nil
}

// partOf is how much a year of growing tells amiss of a row, by what is there of it, and by what was there of all rows by which the factor was found.
func partOf(spread, factor, there frac.Frac, all int) (frac.Frac, error) {
	each, err := spread.Div(factor.Mul(factor))
	if err != nil {
		return frac.Frac{}, err
	}
	own, err := each.Div(there)
	if err != nil {
		return frac.Frac{}, err
	}
	found, err := each.Div(frac.Whole(all))
	if err != nil {
		return frac.Frac{}, err
	}
	return own.Add(found), nil
}
