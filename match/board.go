package match

import (
	"tontine/frac"
	"tontine/whole"
)

// board is a plan in the making. Amounts are numbered: how much there is of each thing that may be held, and then of cash behind each year. As many of them as there are years have a column; the others have a row, and are 0. A column tells in each row how much more its amount is with one more of the row's, and in the last row how much it is without. The last column tells the cost likewise: no amount that has a row costs less than nothing.
//
// All numbers of the rows are whole ones, to be divided by under. They stay whole by each step (Edmonds), since each is a determinant of those at the beginning. To be whole there, each amount is counted in a unit of its own, and all of them, and the cost, are taken so often.
type board struct {
	rows            [][]frac.Frac
	under           frac.Frac
	ofRow, ofColumn []int
	units           []frac.Frac
	often           frac.Frac
}

// boardOf is the board with nothing held: that costs least, but leaves debts instead of cash.
func boardOf(things []Bond, debts []frac.Frac, g growth) *board {
	b := &board{under: frac.Whole(1), often: whole.Common(debts)}
	for i, x := range things {
		unit := whole.Common(x.Pays, []frac.Frac{x.Price})
		b.rows = append(b.rows, append(g.grown(whole.Times(x.Pays, unit)), x.Price.Mul(unit)))
		b.ofRow = append(b.ofRow, i)
		b.units = append(b.units, unit)
	}
	b.rows = append(b.rows, append(g.grown(whole.Times(debts, b.often.Neg())), frac.Frac{}))
	for year, parts := range g.parts(len(debts)) {
		b.ofColumn = append(b.ofColumn, len(things)+year)
		b.units = append(b.units, divided(frac.Whole(1), parts))
	}
	return b
}

// settle takes steps until no amount is below 0. By taking always the first of several (Bland) it never comes where it has been.
func (b *board) settle() {
	for column := b.lacking(); column >= 0; column = b.lacking() {
		b.swap(b.cheapest(column), column)
	}
}

// lacking is the column of the first amount that is below 0; -1, if there is none.
func (b *board) lacking() int {
	found := -1
	for column, amount := range b.ofColumn {
		if below0(b.without()[column]) && (found < 0 || amount < b.ofColumn[found]) {
			found = column
		}
	}
	return found
}

// without is the last row.
func (b *board) without() []frac.Frac { return b.rows[len(b.ofRow)] }

// cheapest is the row of the amount that costs least for what a column's amount is more by it; the first one, if several do. There is one, since debts can be paid by cash alone.
func (b *board) cheapest(column int) int {
	found := -1
	for row, amount := range b.ofRow {
		if b.rows[row][column].Sign() <= 0 {
			continue
		}
		if found >= 0 {
			order := b.cmpCosts(row, found, column)
			if order > 0 || order == 0 && amount > b.ofRow[found] {
				continue
			}
		}
		found = row
	}
	return found
}

// cmpCosts holds against each other what the amounts of two rows cost for what a column's amount is more by them.
func (b *board) cmpCosts(row, other, column int) int {
	x, y := b.rows[row], b.rows[other]
	cost := len(b.ofColumn)
	return x[cost].Mul(y[column]).Cmp(y[cost].Mul(x[column]))
}

// swap gives a row's amount the column, and the column's one, which becomes 0, the row.
func (b *board) swap(row, column int) {
	turned := b.rows[row]
	under := turned[column]
	for i, x := range b.rows {
		if i == row {
			continue
		}
		for k := range x {
			if k != column {
				x[k] = divided(x[k].Mul(under).Sub(x[column].Mul(turned[k])), b.under)
			}
		}
		x[column] = x[column].Neg()
	}
	turned[column] = b.under
	b.under = under
	b.ofRow[row], b.ofColumn[column] = b.ofColumn[column], b.ofRow[row]
}

// amounts are all of them.
func (b *board) amounts() []frac.Frac {
	out := make([]frac.Frac, len(b.units))
	for column, amount := range b.ofColumn {
		out[amount] = b.once(b.without()[column]).Mul(b.units[amount])
	}
	return out
}

// cost is what all cost together.
func (b *board) cost() frac.Frac { return b.once(b.without()[len(b.ofColumn)]) }

// once is an amount, or a cost, as it is.
func (b *board) once(f frac.Frac) frac.Frac { return divided(f, b.under.Mul(b.often)) }

// dear is, of each amount, by how much the cost is more with one more of it.
func (b *board) dear() []frac.Frac {
	out := make([]frac.Frac, len(b.units))
	for row, amount := range b.ofRow {
		out[amount] = divided(b.rows[row][len(b.ofColumn)], b.under.Mul(b.units[amount]))
	}
	return out
}
