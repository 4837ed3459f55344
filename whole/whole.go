// Package whole: fractions as whole numbers over one lower number. (Reckoned with each on its own, they would be lowered at each step, which takes far longer once they have grown.)
package whole

import (
	"strings"

	"tontine/api"
	"tontine/frac"
)

// Common is the least number by which all fractions of some lists become whole.
func Common(lists ...[]frac.Frac) frac.Frac {
	under := frac.Whole(1)
	for _, l := range lists {
		for _, f := range l {
			under = under.Mul(lower(f.Mul(under)))
		}
	}
	return under
}

// lower is the lower number of a fraction, which is shown nowhere but in its text.
func lower(f frac.Frac) frac.Frac {
	if f.Cmp(f.Floor()) == 0 {
		return frac.Whole(1)
	}
	_, digits, _ := strings.Cut(f.Text(), "/")
	var number frac.Frac
	for len(digits) > 0 { // piece by piece, since Parse reads no more than MaxDigits at once
		n := min(len(digits), api.MaxDigits)
		piece, _ := frac.Parse(digits[:n])
		power, _ := frac.Whole(10).Pow(n)
		number = number.Mul(power).Add(piece)
		digits = digits[n:]
	}
	return number
}

// Times are fractions, each so often.
func Times(l []frac.Frac, often frac.Frac) []frac.Frac {
	out := make([]frac.Frac, len(l))
	for i, f := range l {
		out[i] = f.Mul(often)
	}
	return out
}
