package flow

import (
	"slices"

	"tontine/api"
	"tontine/frac"
)

// Part is a year of a loan: of what is paid what is interest, what is paid back, and what is left.
type Part struct{ Interest, Back, Left frac.Frac }

// Loan is what is paid at the end of each year, always as much, so that nothing is left.
func Loan(debt frac.Frac, rates []frac.Frac) (frac.Frac, []Part, error) {
	if err := check(rates); err != nil {
		return frac.Frac{}, nil, err
	}
	if len(rates) == 0 {
		return frac.Frac{}, nil, api.ErrArg
	}
	pay := divided(debt, worth(yearly(len(rates)), rates))
	parts := make([]Part, len(rates))
	left := debt
	for i, rate := range rates {
		interest := rate.Mul(left)
		back := pay.Sub(interest)
		left = left.Sub(back)
		parts[i] = Part{interest, back, left}
	}
	return pay, parts, nil
}

// yearly are payments of one unit at the end of each of so many years, none now.
func yearly(years int) []frac.Frac {
	pay := slices.Repeat([]frac.Frac{frac.Whole(1)}, years+1)
	pay[0] = frac.Frac{}
	return pay
}

// Units is a loan of whole units: each year's interest is rounded to the nearest unit (of two the even one), the payment that is told is paid, in the last year what is left, and no more than that in any year; what is paid in each.
func Units(debt, pay int, rates []frac.Frac) ([]int, error) {
	if !units(debt) || !units(pay) {
		return nil, api.ErrRange
	}
	if len(rates) == 0 {
		return nil, api.ErrArg
	}
	if err := check(rates); err != nil {
		return nil, err
	}
	paid := make([]int, len(rates))
	left := frac.Whole(debt) // may grow beyond an int, as long as it comes back in time
	for i, rate := range rates {
		left = left.Add(nearest(rate.Mul(left)))
		due := frac.Whole(pay)
		if i == len(rates)-1 || due.Cmp(left) > 0 {
			due = left
		}
		n, ok := due.Int()
		if !ok || !units(n) {
			return nil, api.ErrLimit
		}
		paid[i], left = n, left.Sub(due)
	}
	return paid, nil
}

// units tells whether there may be so many. (Nothing that is left falls below 0: no interest takes more than all of it.)
func units(n int) bool { return n >= 0 && n <= api.MaxUnits }

// nearest is the nearest whole number, of two the even one.
func nearest(f frac.Frac) frac.Frac {
	n, _ := f.Round(frac.Whole(1))
	return n
}
