package chain

import (
	"tontine/frac"
	"tontine/whole"
)

// row tells how likely each state is: whole numbers over one lower number.
type row struct {
	over  []frac.Frac
	under frac.Frac
}

// year is a matrix likewise.
type year struct {
	over  Matrix
	under frac.Frac
}

// rowOf is a row of chances.
func rowOf(chances []frac.Frac) row {
	under := whole.Common(chances)
	return row{whole.Times(chances, under), under}
}

// yearOf is a year of a matrix.
func yearOf(m Matrix) year {
	y := year{make(Matrix, len(m)), whole.Common(m...)}
	for i := range len(m) {
		y.over[i] = whole.Times(m[i], y.under)
	}
	return y
}

// behind is how likely each state is behind a year.
func (r row) behind(y year) row {
	next := row{make([]frac.Frac, len(r.over)), r.under.Mul(y.under)}
	for i := range len(r.over) {
		if r.over[i].Sign() == 0 {
			continue
		}
		for k := range len(r.over) {
			next.over[k] = next.over[k].Add(r.over[i].Mul(y.over[i][k]))
		}
	}
	return next
}

// sum is what some are together.
func sum(l []frac.Frac) frac.Frac {
	var all frac.Frac
	for _, f := range l {
		all = all.Add(f)
	}
	return all
}

// divided is a quotient where nothing is divided by 0.
func divided(f, g frac.Frac) frac.Frac {
	q, _ := f.Div(g)
	return q
}
