package credit

import (
	"tontine/api"
	"tontine/frac"
)

// Kind is a kind of risk: how likely it is, the mean of its years, and how much they are spread.
type Kind struct{ Chance, Mean, Spread frac.Frac }

// Line is what is said of the mean of a risk of which years were seen: Base, and so much of the years' mean.
type Line struct{ Base, Own frac.Frac }

// Linear is the line by which the mean of the square of what is said amiss is the least.
func Linear(l []Kind, years int) (Line, error) {
	if err := checkKinds(l, years); err != nil {
		return Line{}, err
	}
	m := mixOf(l, years)
	own := ownPart(m.between, m.doubt)
	return Line{Base: rest(own).Mul(m.mean), Own: own}, nil
}

// Amiss is the mean of the square of what a line says amiss.
func Amiss(l []Kind, years int, x Line) (frac.Frac, error) {
	if err := checkKinds(l, years); err != nil {
		return frac.Frac{}, err
	}
	return mixOf(l, years).amiss(x), nil
}

// checkKinds says whether kinds may be, and so many years.
func checkKinds(l []Kind, years int) error {
	if len(l) < 1 || len(l) > api.MaxRows {
		return api.ErrLimit
	}
	for _, k := range l {
		if k.Chance.Sign() < 0 || k.Spread.Sign() < 0 {
			return api.ErrArg
		}
	}
	if meanOf(l, func(Kind) frac.Frac { return frac.Whole(1) }).Cmp(frac.Whole(1)) != 0 {
		return api.ErrSum
	}
	if years < 1 || years > api.MaxYears {
		return api.ErrRange
	}
	return nil
}

// mix is what kinds are together: the mean of all, how much kinds' means are spread, and how much the mean of the years that are seen is spread beside its kind's, in the mean.
type mix struct{ mean, between, doubt frac.Frac }

// mixOf is that of kinds, of which so many years are seen.
func mixOf(l []Kind, years int) mix {
	mean := meanOf(l, func(k Kind) frac.Frac { return k.Mean })
	squares := meanOf(l, func(k Kind) frac.Frac { return square(k.Mean) })
	spread := meanOf(l, func(k Kind) frac.Frac { return k.Spread })
	return mix{mean, squares.Sub(square(mean)), quotient(spread, years)}
}

// meanOf is the mean of what hangs on the kind.
func meanOf(l []Kind, of func(Kind) frac.Frac) frac.Frac {
	var sum frac.Frac
	for _, k := range l {
		sum = sum.Add(k.Chance.Mul(of(k)))
	}
	return sum
}

// amiss is the mean of the square of what a line says amiss, in three parts, since none of them hangs on another: what is amiss in the mean of all; what is missed of how kinds are spread; what is taken over of how years are. (Linear's line leaves nothing of the first, and the least of both others.)
func (m mix) amiss(x Line) frac.Frac {
	missed := rest(x.Own)
	first := square(x.Base.Sub(missed.Mul(m.mean)))
	return first.Add(square(missed).Mul(m.between)).Add(square(x.Own).Mul(m.doubt))
}

// rest is what a part leaves of 1.
func rest(part frac.Frac) frac.Frac { return frac.Whole(1).Sub(part) }
