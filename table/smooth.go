package table

import (
	"tontine/api"
	"tontine/frac"
)

const mostOrder = 4

// Smooth is Whittaker's graduation: of all rows v the one for which the weighted squares of v less what was seen, and so often the squares of v's differences of an order, are the least together.
func Smooth(seen, weights []frac.Frac, order int, often frac.Frac) ([]frac.Frac, error) {
	switch {
	case len(weights) != len(seen) || order < 1 || order > mostOrder || often.Sign() < 0:
		return nil, api.ErrArg
	case len(seen) <= order || len(seen) > api.MaxRows:
		return nil, api.ErrRange
	}
	for _, w := range weights {
		if w.Sign() < 0 {
			return nil, api.ErrArg
		}
	}
	rows := equations(seen, weights, order, often)
	if !eliminate(rows, order) {
		return nil, api.ErrNone
	}
	return solved(rows), nil
}

// equations says, row by row, that the sum is the least: that it changes with no v. Each row has how often it takes each v, and behind them what these come to.
func equations(seen, weights []frac.Frac, order int, often frac.Frac) [][]frac.Frac {
	n := len(seen)
	rows := make([][]frac.Frac, n)
	for i := range rows {
		rows[i] = make([]frac.Frac, n+1)
		rows[i][i], rows[i][n] = weights[i], weights[i].Mul(seen[i])
	}
	times := differences(order)
	for first := range n - order {
		for a, x := range times {
			for b, y := range times {
				i, j := first+a, first+b
				rows[i][j] = rows[i][j].Add(often.Mul(frac.Whole(x * y)))
			}
		}
	}
	return rows
}

// differences tells how often each of order + 1 neighbours is in their difference of that order.
func differences(order int) []int {
	times := make([]int, order+1)
	times[0] = 1
	for range order {
		for i := order; i > 0; i-- {
			times[i] = times[i-1] - times[i]
		}
		times[0] = -times[0]
	}
	return times
}

// eliminate takes each v out of the rows behind its own, which then has it just once; false, if its own row does not have it any more, so that any v would do. A row and a column are alike, and stay so: what stands ahead of the diagonal is not worked out. Rows have no v that is farther away than the order.
func eliminate(rows [][]frac.Frac, order int) bool {
	n := len(rows)
	for k, row := range rows {
		inverse, err := frac.Whole(1).Div(row[k])
		if err != nil {
			return false
		}
		for i := k + 1; i < n && i <= k+order; i++ {
			share := row[i].Mul(inverse)
			for j := i; j <= n; j++ {
				rows[i][j] = rows[i][j].Sub(share.Mul(row[j]))
			}
		}
		for j := k; j <= n; j++ {
			row[j] = row[j].Mul(inverse)
		}
	}
	return true
}

// solved finds each v by those behind it.
func solved(rows [][]frac.Frac) []frac.Frac {
	n := len(rows)
	v := make([]frac.Frac, n)
	for i := n - 1; i >= 0; i-- {
		v[i] = rows[i][n]
		for j := i + 1; j < n; j++ {
			v[i] = v[i].Sub(rows[i][j].Mul(v[j]))
		}
	}
	return v
}
