package order_test

import (
	"math/big"
	"math/rand"
	"reflect"
	"strings"
	"testing"

	"tontine/api"
	"tontine/claims"
	"tontine/frac"
)

// wantError fails unless there is just this error, without a place, and the other results are their zero values.
func wantError(t *testing.T, what string, err error, e api.Errno, others ...any) {
	t.Helper()
	if err != error(e) {
		t.Errorf("%s: %v, not %v", what, err, e)
	}
	for _, other := range others {
		if !reflect.ValueOf(other).IsZero() {
			t.Errorf("%s: %v beside an error", what, other)
		}
	}
}

// one is the fraction of a text.
func one(t *testing.T, text string) frac.Frac {
	t.Helper()
	f, err := frac.Parse(text)
	if err != nil {
		t.Fatalf("Parse(%q): %v", text, err)
	}
	return f
}

// law is that of a text, with blanks between its numbers.
func law(t *testing.T, text string) claims.Law {
	t.Helper()
	var l claims.Law
	for _, w := range strings.Fields(text) {
		l = append(l, one(t, w))
	}
	return l
}

// sure is the law of one amount, with so many noughts behind it.
func sure(amount, noughts int) claims.Law {
	l := make(claims.Law, amount+1+noughts)
	l[amount] = frac.Whole(1)
	return l
}

// rat is a fraction as the library has it.
func rat(f frac.Frac) *big.Rat {
	r, _ := new(big.Rat).SetString(f.Text())
	return r
}

// meanOf is the mean of a number that hangs on the amount, as the library reckons it.
func meanOf(l []frac.Frac, of func(amount int) int) *big.Rat {
	sum := new(big.Rat)
	for amount, chance := range l {
		sum.Add(sum, new(big.Rat).Mul(rat(chance), big.NewRat(int64(of(amount)), 1)))
	}
	return sum
}

// above is 1 for amounts beyond x; beyond is how much they are beyond it.
func above(x int) func(amount int) int {
	return func(amount int) int { return min(1, max(0, amount-x)) }
}

func beyond(x int) func(amount int) int {
	return func(amount int) int { return max(0, amount-x) }
}

// nowhere is what Always and Rather are to answer, amount by amount.
func nowhere(a, b claims.Law, of func(x int) func(amount int) int) (bool, int) {
	for x := range max(len(a), len(b)) {
		if meanOf(a, of(x)).Cmp(meanOf(b, of(x))) > 0 {
			return false, x
		}
	}
	return true, 0
}

// parted are all laws of so many numbers that are multiples of 1/parts.
func parted(numbers, parts int) []claims.Law {
	var out []claims.Law
	var fill func(l claims.Law, left int)
	fill = func(l claims.Law, left int) {
		if len(l) == numbers-1 {
			f, _ := frac.Of(left, parts)
			out = append(out, append(append(claims.Law{}, l...), f))
			return
		}
		for n := range left + 1 {
			f, _ := frac.Of(n, parts)
			fill(append(l, f), left-n)
		}
	}
	fill(nil, parts)
	return out
}

// drawnLaw is a law of so many numbers, some of them noughts.
func drawnLaw(r *rand.Rand, numbers int) claims.Law {
	weights := make([]int, numbers)
	all := 0
	for i := range weights {
		weights[i] = max(0, r.Intn(30)-8)
		all += weights[i]
	}
	weights[r.Intn(numbers)]++
	l := make(claims.Law, numbers)
	for i, w := range weights {
		l[i], _ = frac.Of(w, all+1)
	}
	return l
}

// longLaw has so many numbers, of as many digits as a text's numbers have, each over a lower number of its own.
func longLaw(t *testing.T, r *rand.Rand, numbers int) claims.Law {
	t.Helper()
	l := make(claims.Law, numbers)
	var rest frac.Frac
	for i := 1; i < numbers; i++ {
		l[i] = one(t, drawnDigits(r, api.MaxDigits-3)+"/"+drawnDigits(r, api.MaxDigits))
		rest = rest.Add(l[i])
	}
	l[0] = frac.Whole(1).Sub(rest)
	return l
}

// drawnDigits is a number of so many digits.
func drawnDigits(r *rand.Rand, n int) string {
	digits := []byte{'9'}
	for len(digits) < n {
		digits = append(digits, byte('0'+r.Intn(10)))
	}
	return string(digits)
}

// wantMargins fails unless a matrix has no chance below 0, rows that are the first law's, and columns that are the second one's.
func wantMargins(t *testing.T, what string, m [][]frac.Frac, a, b claims.Law) {
	t.Helper()
	if len(m) != len(a) {
		t.Fatalf("%s: %d rows, not %d", what, len(m), len(a))
	}
	columns := make(claims.Law, len(b))
	for i, row := range m {
		if len(row) != len(b) {
			t.Fatalf("%s: %d columns, not %d", what, len(row), len(b))
		}
		var all frac.Frac
		for k, f := range row {
			if f.Sign() < 0 {
				t.Errorf("%s: %s below 0", what, f.Text())
			}
			all = all.Add(f)
			columns[k] = columns[k].Add(f)
		}
		if all.Cmp(a[i]) != 0 {
			t.Errorf("%s: row %d is %s together, not %s", what, i, all.Text(), a[i].Text())
		}
	}
	if frac.Words(columns) != frac.Words(b) {
		t.Errorf("%s: columns are %s together, not %s", what, frac.Words(columns), frac.Words(b))
	}
}

// wantMatrix fails unless a matrix is written so, without an error.
func wantMatrix(t *testing.T, what string, m [][]frac.Frac, err error, text string) {
	t.Helper()
	if err != nil {
		t.Errorf("%s: %v", what, err)
	}
	if words(m) != text {
		t.Errorf("%s: %s, not %s", what, words(m), text)
	}
}

// words are a matrix's rows, written.
func words(m [][]frac.Frac) string {
	var rows []string
	for _, row := range m {
		rows = append(rows, frac.Words(row))
	}
	return strings.Join(rows, "; ")
}

// wantOwnRows fails if one row of a matrix has room for another one's numbers.
func wantOwnRows(t *testing.T, what string, m [][]frac.Frac) {
	t.Helper()
	before := words(m)
	for _, row := range m {
		_ = append(row, frac.Whole(-7))
	}
	if words(m) != before {
		t.Errorf("%s: what is put behind a row stands in another one", what)
	}
}
