package match

import (
	"tontine/api"
	"tontine/frac"
	"tontine/whole"
)

// Shape is what payments at the ends of years are worth at one rate for all years, and how that goes with the discount: the sum of t v^t and of t^2 v^t times what is paid.
type Shape struct{ Worth, First, Second frac.Frac }

// Measure is the shape of payments: the first is now.
func Measure(pay []frac.Frac, rate frac.Frac) (Shape, error) {
	if len(pay) > api.MaxYears {
		return Shape{}, api.ErrLimit
	}
	if len(pay) == 0 {
		return Shape{}, nil
	}
	if !above(rate) {
		return Shape{}, api.ErrArg
	}
	g, often := growthOf(rate), whole.Common(pay)
	each := whole.Times(pay, often)
	first := byTime(each)
	return Shape{g.worth(each, often), g.worth(first, often), g.worth(byTime(first), often)}, nil
}

// above tells whether a rate is above -1.
func above(rate frac.Frac) bool { return rate.Cmp(frac.Whole(-1)) > 0 }

// byTime are payments, each times its time.
func byTime(pay []frac.Frac) []frac.Frac {
	out := make([]frac.Frac, len(pay))
	for time, p := range pay {
		out[time] = p.Mul(frac.Whole(time))
	}
	return out
}

// worth is what payments, of which there are some, each taken so often as to be whole, are worth now: what they have grown to at the time of the last one, brought back.
func (g growth) worth(pay []frac.Frac, often frac.Frac) frac.Frac {
	end := len(pay) - 1
	back, _ := g.over.Pow(end)
	return divided(g.grown(pay)[end], back.Mul(often))
}

// Immune says whether assets are worth what debts are at a rate, go with it alike, and are spread more (Redington).
func Immune(assets, debts []frac.Frac, rate frac.Frac) (bool, error) {
	have, err := Measure(assets, rate)
	if err != nil {
		return false, err
	}
	owe, err := Measure(debts, rate)
	if err != nil {
		return false, err
	}
	return have.Worth.Cmp(owe.Worth) == 0 && have.First.Cmp(owe.First) == 0 && have.Second.Cmp(owe.Second) > 0, nil
}

// Pair is how much must be due at two years, one ahead of a debt and one behind it, to be worth what it is at a rate, and go with it alike: then they are worth no less at any rate.
func Pair(debt frac.Frac, at, ahead, behind int, rate frac.Frac) (frac.Frac, frac.Frac, error) {
	if ahead < 0 || ahead >= at || at >= behind || behind > api.MaxYears {
		return frac.Frac{}, frac.Frac{}, api.ErrRange
	}
	if !above(rate) || below0(debt) {
		return frac.Frac{}, frac.Frac{}, api.ErrArg
	}
	return moved(debt, at, ahead, behind, rate), moved(debt, at, behind, ahead, rate), nil
}

// moved is the part of a debt that is due at another time instead, if the rest is due at a third one: the part that brings the mean of both times to the debt's, at what it is worth then.
func moved(debt frac.Frac, at, to, other int, rate frac.Frac) frac.Frac {
	part, _ := frac.Of(other-at, other-to)
	grown, _ := frac.Whole(1).Add(rate).Pow(to - at)
	return debt.Mul(part).Mul(grown)
}
