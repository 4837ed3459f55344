package chain

import (
	"strings"

	"tontine/api"
	"tontine/frac"
)

// row tells how likely each state is: whole numbers over one lower number. (Fractions of their own would be lowered at each step, which takes far longer once they have grown.)
type row struct {
	over  []frac.Frac
	under frac.Frac
}

// year is a matrix likewise.
type year struct {
	over  Matrix
	under frac.Frac
}

// rowOf is a row of chances.
func rowOf(chances []frac.Frac) row {
	y := yearOf(Matrix{chances})
	return row{y.over[0], y.under}
}

// yearOf is a year of a matrix.
func yearOf(m Matrix) year {
	y := year{make(Matrix, len(m)), common(m)}
	for i := range len(m) {
		for _, chance := range m[i] {
			y.over[i] = append(y.over[i], chance.Mul(y.under))
		}
	}
	return y
}

// common is the least number by which all chances of a matrix become whole.
func common(m Matrix) frac.Frac {
	under := frac.Whole(1)
	for _, chances := range m {
		for _, chance := range chances {
			under = under.Mul(lower(chance.Mul(under)))
		}
	}
	return under
}

// lower is the lower number of a fraction, which is shown nowhere but in its text.
func lower(f frac.Frac) frac.Frac {
	if f.Cmp(f.Floor()) == 0 {
		return frac.Whole(1)
	}
	_, digits, _ := strings.Cut(f.Text(), "/")
	var number frac.Frac
	for len(digits) > 0 { // piece by piece, since Parse reads no more than MaxDigits at once
		n := min(len(digits), api.MaxDigits)
		piece, _ := frac.Parse(digits[:n])
		power, _ := frac.Whole(10).Pow(n)
		number = number.Mul(power).Add(piece)
		digits = digits[n:]
	}
	return number
}

// behind is how likely each state is behind a year.
func (r row) behind(y year) row {
	next := row{make([]frac.Frac, len(r.over)), r.under.Mul(y.under)}
	for i := range len(r.over) {
		if r.over[i].Sign() == 0 {
			continue
		}
		for k := range len(r.over) {
			next.over[k] = next.over[k].Add(r.over[i].Mul(y.over[i][k]))
		}
	}
	return next
}

// sum is what some are together.
func sum(l []frac.Frac) frac.Frac {
	var all frac.Frac
	for _, f := range l {
		all = all.Add(f)
	}
	return all
}

// divided is a quotient where nothing is divided by 0.
func divided(f, g frac.Frac) frac.Frac {
	q, _ := f.Div(g)
	return q
}
