package order

import (
	"slices"

	"tontine/api"
	"tontine/claims"
	"tontine/frac"
	"tontine/rows"
)

// Beside shows it: how likely each amount of the one and each of the other are together, so that the first is never above the second: by quantiles. ErrNone: it is not so.
func Beside(a, b claims.Law) ([][]frac.Frac, error) {
	below, _, err := Always(a, b)
	if err != nil {
		return nil, err
	}
	if len(a) > api.MaxRows || len(b) > api.MaxRows {
		return nil, api.ErrLimit
	}
	if !below {
		return nil, api.ErrNone
	}
	out, left := rows.New(len(a), len(b)), slices.Clone(b)
	for amount, chance := range a {
		takeLowest(out[amount], left, chance)
	}
	return out, nil
}

// takeLowest gives a row so much of what is left, from the lowest amount on.
func takeLowest(row, left []frac.Frac, chance frac.Frac) {
	for k := range row {
		part := least(chance, left[k])
		row[k] = part
		left[k] = left[k].Sub(part)
		chance = chance.Sub(part)
	}
}

// least is the lesser one of two.
func least(f, g frac.Frac) frac.Frac {
	if f.Cmp(g) <= 0 {
		return f
	}
	return g
}
