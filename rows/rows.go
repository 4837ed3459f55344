// Package rows: rows of fractions that lie in one list.
package rows

import "tontine/frac"

// New are so many rows of so many noughts: pieces of one list, with no room beyond them, so that what is put behind one row does not run into the next.
func New(rows, width int) [][]frac.Frac {
	all := make([]frac.Frac, rows*width)
	out := make([][]frac.Frac, rows)
	for i := range out {
		from, to := i*width, (i+1)*width
		out[i] = all[from:to:to]
	}
	return out
}
