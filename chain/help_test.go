package chain_test

import (
	"math/big"
	"math/rand"
	"reflect"
	"strings"
	"testing"

	"tontine/api"
	"tontine/chain"
	"tontine/frac"
)

const (
	leastInt    = -1 << 63
	greatestInt = 1<<63 - 1
)

// wantError fails unless there is just this error, without a place, and the other results are their zero values.
func wantError(t *testing.T, what string, err error, e api.Errno, others ...any) {
	t.Helper()
	if err != error(e) {
		t.Errorf("%s: %v, not %v", what, err, e)
	}
	for _, x := range others {
		if !reflect.ValueOf(x).IsZero() {
			t.Errorf("%s: %v beside an error", what, x)
		}
	}
}

// want fails unless a fraction is written so, without an error.
func want(t *testing.T, what string, f frac.Frac, err error, text string) {
	t.Helper()
	if err != nil {
		t.Errorf("%s: %v", what, err)
	}
	if f.Text() != text {
		t.Errorf("%s: %s, not %s", what, f.Text(), text)
	}
}

// wantRow fails unless fractions are written so, without an error.
func wantRow(t *testing.T, what string, l []frac.Frac, err error, text string) {
	t.Helper()
	if err != nil {
		t.Errorf("%s: %v", what, err)
	}
	if frac.Words(l) != text {
		t.Errorf("%s: %s, not %s", what, frac.Words(l), text)
	}
}

// fracs are the fractions of a text, with blanks between.
func fracs(t *testing.T, text string) []frac.Frac {
	t.Helper()
	var l []frac.Frac
	for _, w := range strings.Fields(text) {
		f, err := frac.Parse(w)
		if err != nil {
			t.Fatalf("Parse(%q): %v", w, err)
		}
		l = append(l, f)
	}
	return l
}

// matrix is one of rows with ; between.
func matrix(t *testing.T, text string) chain.Matrix {
	t.Helper()
	var m chain.Matrix
	if text == "" {
		return m
	}
	for _, row := range strings.Split(text, ";") {
		m = append(m, fracs(t, row))
	}
	return m
}

// matrices are some with | between.
func matrices(t *testing.T, text string) []chain.Matrix {
	t.Helper()
	var l []chain.Matrix
	for _, m := range strings.Split(text, "|") {
		l = append(l, matrix(t, m))
	}
	return l
}

// written is a matrix as a text.
func written(m chain.Matrix) string {
	var rows []string
	for _, row := range m {
		rows = append(rows, frac.Words(row))
	}
	return strings.Join(rows, "; ")
}

// unit is the matrix by which each of so many states stays.
func unit(n int) chain.Matrix {
	m := make(chain.Matrix, n)
	for i := range n {
		m[i] = make([]frac.Frac, n)
		m[i][i] = frac.Whole(1)
	}
	return m
}

// made is a chain that may be.
func made(t *testing.T, years []chain.Matrix) *chain.Chain {
	t.Helper()
	c, err := chain.New(years)
	if err != nil {
		t.Fatal(err)
	}
	return c
}

// rat is a fraction as the library has it.
func rat(t *testing.T, f frac.Frac) *big.Rat {
	t.Helper()
	r, ok := new(big.Rat).SetString(f.Text())
	if !ok {
		t.Fatalf("%q is no fraction", f.Text())
	}
	return r
}

// drawnRow are chances of n states, many of them 0, over some lower number.
func drawnRow(r *rand.Rand, n int) []frac.Frac {
	row := make([]frac.Frac, n)
	under := 1 + r.Intn(30)
	left := under
	for left > 0 {
		part := 1 + r.Intn(left)
		f, _ := frac.Of(part, under)
		k := r.Intn(n)
		row[k] = row[k].Add(f)
		left -= part
	}
	return row
}

// drawn is a matrix of n states.
func drawn(r *rand.Rand, n int) chain.Matrix {
	m := make(chain.Matrix, n)
	for i := range n {
		m[i] = drawnRow(r, n)
	}
	return m
}

// drawnYears are matrices of n states.
func drawnYears(r *rand.Rand, n, years int) []chain.Matrix {
	var l []chain.Matrix
	for range years {
		l = append(l, drawn(r, n))
	}
	return l
}

// longRow are chances of n states, all above 0, with lower numbers of so many digits that have little in common.
func longRow(r *rand.Rand, n, digits int) []frac.Frac {
	row := make([]frac.Frac, n)
	left := frac.Whole(1)
	for k := range n - 1 {
		power, _ := frac.Whole(10).Pow(digits)
		under := power.Add(frac.Whole(1 + r.Intn(1_000_000)))
		over, _ := under.Mul(frac.Whole(1 + r.Intn(999))).Div(frac.Whole(1000 * n))
		row[k], _ = over.Floor().Div(under)
		left = left.Sub(row[k])
	}
	row[n-1] = left
	return row
}
