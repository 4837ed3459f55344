package rows

import (
	"testing"

	"tontine/frac"
)

// Rows have noughts alone, and none has room for what stands in the next.
func TestNew(t *testing.T) {
	for _, s := range []struct{ rows, width int }{{0, 0}, {0, 3}, {3, 0}, {1, 1}, {3, 2}, {2, 5}} {
		l := New(s.rows, s.width)
		if len(l) != s.rows {
			t.Fatalf("%d rows, not %d", len(l), s.rows)
		}
		for i, row := range l {
			if len(row) != s.width || cap(row) != s.width {
				t.Errorf("row %d: %d fractions with room for %d, not %d", i, len(row), cap(row), s.width)
			}
			for k, f := range row {
				if f.Sign() != 0 {
					t.Errorf("%s in row %d at %d", f.Text(), i, k)
				}
				row[k] = frac.Whole(i*s.width + k + 1)
			}
			_ = append(row, frac.Whole(-1))
		}
		for i, row := range l {
			for k, f := range row {
				if f.Cmp(frac.Whole(i*s.width+k+1)) != 0 {
					t.Errorf("%s in row %d at %d: another row was written", f.Text(), i, k)
				}
			}
		}
	}
}
