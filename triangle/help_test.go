package triangle_test

import (
	"errors"
	"math/big"
	"math/rand"
	"reflect"
	"strconv"
	"strings"
	"testing"

	"tontine/api"
	"tontine/frac"
	"tontine/triangle"
)

const (
	leastInt    = -1 << 63
	greatestInt = 1<<63 - 1
	mostRows    = 20
)

// wantError fails unless there is just this error, without a place, and the other results are their zero values.
func wantError(t *testing.T, what string, err error, e api.Errno, others ...any) {
	t.Helper()
	if err != error(e) {
		t.Errorf("%s: %v, not %v", what, err, e)
	}
	wantZero(t, what, others...)
}

// wantAt fails unless there is just this error at a place, and the other results are their zero values.
func wantAt(t *testing.T, what string, err error, e api.Errno, place int, others ...any) {
	t.Helper()
	var at *api.At
	if !errors.As(err, &at) {
		t.Errorf("%s: %v, without a place", what, err)
	} else if at.Err != e || at.Place != place {
		t.Errorf("%s: %v at %d, not %v at %d", what, at.Err, at.Place, e, place)
	}
	wantZero(t, what, others...)
}

// wantZero fails unless all are their zero values.
func wantZero(t *testing.T, what string, others ...any) {
	t.Helper()
	for _, other := range others {
		if !reflect.ValueOf(other).IsZero() {
			t.Errorf("%s: %v beside an error", what, other)
		}
	}
}

// want fails unless fractions are written so, with blanks between, without an error.
func want(t *testing.T, what string, l []frac.Frac, err error, text string) {
	t.Helper()
	if err != nil {
		t.Errorf("%s: %v", what, err)
	}
	if frac.Words(l) != text {
		t.Errorf("%s: %s, not %s", what, frac.Words(l), text)
	}
}

// rows writes rows of fractions, with a bar between.
func rows(l [][]frac.Frac) string {
	var texts []string
	for _, row := range l {
		texts = append(texts, frac.Words(row))
	}
	return strings.Join(texts, " | ")
}

// of is the triangle of a text, with slashes between its rows.
func of(t *testing.T, text string) triangle.Triangle {
	t.Helper()
	var out triangle.Triangle
	for row := range strings.SplitSeq(text, "/") {
		var l []int
		for word := range strings.FieldsSeq(row) {
			n, err := strconv.Atoi(word)
			if err != nil {
				t.Fatal(err)
			}
			l = append(l, n)
		}
		out = append(out, l)
	}
	return out
}

// full is a triangle of so many rows with one number everywhere.
func full(n, paid int) triangle.Triangle {
	var out triangle.Triangle
	for i := range n {
		row := make([]int, n-i)
		for k := range row {
			row[k] = paid
		}
		out = append(out, row)
	}
	return out
}

// with is a triangle in which one number is another.
func with(t triangle.Triangle, i, k, paid int) triangle.Triangle {
	t[i][k] = paid
	return t
}

// drawnTriangle is one that may be; its numbers grow, or do not.
func drawnTriangle(r *rand.Rand, rows, great int) triangle.Triangle {
	var out triangle.Triangle
	grows := r.Intn(2) == 0
	for i := range rows {
		row := make([]int, rows-i)
		for k := range row {
			row[k] = r.Intn(great)
			if grows && k > 0 {
				row[k] = min(row[k-1]+row[k]/4, great-1)
			}
		}
		out = append(out, row)
	}
	return out
}

// rat is a fraction as a big.Rat.
func rat(t *testing.T, f frac.Frac) *big.Rat {
	t.Helper()
	r, ok := new(big.Rat).SetString(f.Text())
	if !ok {
		t.Fatalf("%q is no fraction", f.Text())
	}
	return r
}

// whole is a whole number as a big.Rat.
func whole(n int) *big.Rat { return big.NewRat(int64(n), 1) }

// quo is a quotient, if there is one.
func quo(x, y *big.Rat) (*big.Rat, bool) {
	if y.Sign() == 0 {
		return nil, false
	}
	return new(big.Rat).Quo(x, y), true
}

// add, sub and mul are sums, differences and products.
func add(x, y *big.Rat) *big.Rat { return new(big.Rat).Add(x, y) }
func sub(x, y *big.Rat) *big.Rat { return new(big.Rat).Sub(x, y) }
func mul(x, y *big.Rat) *big.Rat { return new(big.Rat).Mul(x, y) }

// wantRats fails unless fractions are these; or there is ErrZero, if there are none.
func wantRats(t *testing.T, what string, got []frac.Frac, err error, wanted []*big.Rat) {
	t.Helper()
	if wanted == nil {
		wantError(t, what, err, api.ErrZero, got)
		return
	}
	if err != nil || len(got) != len(wanted) {
		t.Fatalf("%s: %v, %v", what, frac.Words(got), err)
	}
	for i, f := range got {
		if rat(t, f).Cmp(wanted[i]) != 0 {
			t.Errorf("%s: %s at %d, not %v", what, f.Text(), i, wanted[i])
		}
	}
}

// amissTriangle is one that may not be.
type amissTriangle struct {
	what string
	t    triangle.Triangle
	e    api.Errno
}

// amissTriangles are such, each with what is said of it.
func amissTriangles(t *testing.T) []amissTriangle {
	t.Helper()
	l := []amissTriangle{
		{"none", nil, api.ErrLimit},
		{"none, but not nil", triangle.Triangle{}, api.ErrLimit},
		{"one row", of(t, "1"), api.ErrLimit},
		{"one row that is no triangle", of(t, "-1 2 3"), api.ErrLimit},
		{"a row too many", full(mostRows+1, 1), api.ErrLimit},
		{"a row too many, and each too short", make(triangle.Triangle, mostRows+1), api.ErrLimit},
		{"far too many rows", make(triangle.Triangle, 50000), api.ErrLimit},
		{"empty rows", make(triangle.Triangle, 2), api.ErrForm},
		{"most rows, all empty", make(triangle.Triangle, mostRows), api.ErrForm},
		{"a row too short", of(t, "1 2 / "), api.ErrForm},
		{"a first row too short", of(t, "1 / 2"), api.ErrForm},
		{"a row too long", of(t, "1 2 / 3 4"), api.ErrForm},
		{"a first row too long", of(t, "1 2 3 / 4"), api.ErrForm},
		{"a square", of(t, "1 2 3 / 1 2 3 / 1 2 3"), api.ErrForm},
		{"upside down", of(t, "1 / 2 3"), api.ErrForm},
		{"below 0 in a row too long", of(t, "1 -2 3 / 4"), api.ErrForm},
		{"below 0 ahead of a row too long", of(t, "1 -2 / 3 4"), api.ErrRange},
		{"below 0 behind a row too long", of(t, "1 2 3 / -4"), api.ErrForm},
		{"below 0 ahead of a row too short", of(t, "1 2 -3 / 4 / 5"), api.ErrRange},
		{"below 0 behind a row too short", of(t, "1 2 3 / 4 / -5"), api.ErrForm},
	}
	for _, n := range []int{-1, leastInt, api.MaxUnits + 1, greatestInt} {
		text := strconv.Itoa(n)
		l = append(l,
			amissTriangle{text + " at first", of(t, text+" 2 / 3"), api.ErrRange},
			amissTriangle{text + " in a row", of(t, "1 "+text+" / 3"), api.ErrRange},
			amissTriangle{text + " at last", with(full(mostRows, 1), mostRows-1, 0, n), api.ErrRange})
	}
	return l
}
