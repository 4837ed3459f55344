package order

import (
	"slices"

	"tontine/api"
	"tontine/claims"
	"tontine/frac"
	"tontine/rows"
)

// mostSpread is how many numbers the laws of Spread may have.
const mostSpread = 9

// Spread shows it, of laws with one mean: how likely each amount of the one and each of the other are together, so that behind each amount of the first the mean of the second is that amount. ErrSum: the means are unlike. ErrNone: it is not so.
func Spread(a, b claims.Law) ([][]frac.Frac, error) {
	mean, err := shortMean(a)
	if err != nil {
		return nil, err
	}
	other, err := shortMean(b)
	if err != nil {
		return nil, err
	}
	if mean.Cmp(other) != 0 {
		return nil, api.ErrSum
	}
	if below, _, _ := Rather(a, b); !below {
		return nil, api.ErrNone
	}
	return spread(a, b), nil
}

// shortMean is the mean of a law that has no more numbers than those of Spread.
func shortMean(l claims.Law) (frac.Frac, error) {
	mean, err := claims.Mean(l)
	if err == nil && len(l) > mostSpread {
		return frac.Frac{}, api.ErrLimit
	}
	return mean, err
}

// spread gives each amount of a, from the lowest one on, a piece of what is left of b that has its mean, with no gap in it. (Of all parts with that chance and that mean this one is spread the least, so that what is left is spread enough for the amounts still to come: Beiglboeck and Juillet call it the shadow.)
func spread(a, b claims.Law) [][]frac.Frac {
	out, left := rows.New(len(a), len(b)), slices.Clone(b)
	for amount, chance := range a {
		row := out[amount]
		takeLowest(row, left, chance)
		raise(row, left, chance.Mul(frac.Whole(amount)).Sub(sum(row)))
	}
	return out
}

// sum are a row's amounts, each times its chance, together.
func sum(row []frac.Frac) frac.Frac {
	var all frac.Frac
	for k, chance := range row {
		all = all.Add(chance.Mul(frac.Whole(k)))
	}
	return all
}

// raise changes a row's lowest amounts for the next higher ones that have something left, until so much more of amounts times chances is there.
func raise(row, left []frac.Frac, missing frac.Frac) {
	for low := range row {
		for high := low + 1; high < len(row); high++ {
			apart := frac.Whole(high - low)
			needed, _ := missing.Div(apart)
			part := least(needed, least(row[low], left[high]))
			row[low], left[low] = row[low].Sub(part), left[low].Add(part)
			row[high], left[high] = row[high].Add(part), left[high].Sub(part)
			missing = missing.Sub(part.Mul(apart))
		}
	}
}
