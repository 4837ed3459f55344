package credit_test

import (
	"math/big"
	"math/rand"
	"reflect"
	"strings"
	"testing"

	"tontine/api"
	"tontine/credit"
	"tontine/frac"
)

const (
	leastInt    = -1 << 63
	greatestInt = 1<<63 - 1
)

// wantError fails unless there is just this error, without a place, and the other result is its zero value.
func wantError(t *testing.T, what string, err error, e api.Errno, other any) {
	t.Helper()
	if err != error(e) {
		t.Errorf("%s: %v, not %v", what, err, e)
	}
	if !reflect.ValueOf(other).IsZero() {
		t.Errorf("%s: %v beside an error", what, other)
	}
}

// want fails unless a fraction is written so, without an error.
func want(t *testing.T, what string, f frac.Frac, err error, text string) {
	t.Helper()
	if err != nil {
		t.Errorf("%s: %v", what, err)
	}
	if f.Text() != text {
		t.Errorf("%s: %s, not %s", what, f.Text(), text)
	}
}

// wantLine fails unless a line is written so, without an error.
func wantLine(t *testing.T, what string, x credit.Line, err error, base, own string) {
	t.Helper()
	want(t, what+", Base", x.Base, err, base)
	want(t, what+", Own", x.Own, err, own)
}

// one is the fraction of a text.
func one(t *testing.T, text string) frac.Frac {
	t.Helper()
	f, err := frac.Parse(text)
	if err != nil {
		t.Fatalf("Parse(%q): %v", text, err)
	}
	return f
}

// fracs are those of a text, with blanks between.
func fracs(t *testing.T, text string) []frac.Frac {
	t.Helper()
	var l []frac.Frac
	for _, w := range strings.Fields(text) {
		l = append(l, one(t, w))
	}
	return l
}

// rowsOf are rows of a text, with ; between.
func rowsOf(t *testing.T, text string) [][]frac.Frac {
	t.Helper()
	var rows [][]frac.Frac
	for _, s := range strings.Split(text, ";") {
		rows = append(rows, fracs(t, s))
	}
	return rows
}

// kindsOf are kinds of a text: chance, mean and spread of each, with ; between.
func kindsOf(t *testing.T, text string) []credit.Kind {
	t.Helper()
	var l []credit.Kind
	for _, k := range rowsOf(t, text) {
		l = append(l, credit.Kind{Chance: k[0], Mean: k[1], Spread: k[2]})
	}
	return l
}

// noughts are so many rows of so many noughts.
func noughts(rows, years int) [][]frac.Frac {
	var l [][]frac.Frac
	for range rows {
		l = append(l, make([]frac.Frac, years))
	}
	return l
}

// alike are so many kinds, each as likely.
func alike(n int) []credit.Kind {
	l := make([]credit.Kind, n)
	for i := range l {
		l[i].Chance, _ = frac.Of(1, n)
		l[i].Mean, l[i].Spread = frac.Whole(i), frac.Whole(n-i)
	}
	return l
}

// drawn is a fraction with a sign.
func drawn(r *rand.Rand) frac.Frac {
	f, _ := frac.Of(r.Intn(60)-20, 1+r.Intn(9))
	return f
}

// drawnRows are so many rows of so many years.
func drawnRows(r *rand.Rand, rows, years int) [][]frac.Frac {
	l := noughts(rows, years)
	for _, row := range l {
		by := drawn(r) // so that some risks are unlike
		for i := range row {
			row[i] = drawn(r).Add(by)
		}
	}
	return l
}

// drawnKinds are so many; some have no chance, some means are alike. Spreads are squares, so that years of one kind can be its mean and a fraction more or less.
func drawnKinds(r *rand.Rand, n int) []credit.Kind {
	weights, all := make([]int, n), 0
	for i := range weights {
		weights[i] = max(0, r.Intn(9)-2)
		all += weights[i]
	}
	weights[r.Intn(n)]++
	l := make([]credit.Kind, n)
	for i := range l {
		l[i].Chance, _ = frac.Of(weights[i], all+1)
		l[i].Mean = drawn(r)
		if i > 0 && r.Intn(4) == 0 {
			l[i].Mean = l[i-1].Mean
		}
		if r.Intn(4) > 0 {
			l[i].Spread, _ = drawn(r).Pow(2)
		}
	}
	return l
}

// longFrac has as many digits as a text's numbers may have, above and below.
func longFrac(t *testing.T, r *rand.Rand) frac.Frac {
	t.Helper()
	return one(t, longDigits(r, api.MaxDigits)+"/"+longDigits(r, api.MaxDigits))
}

// longDigits is a number of so many digits.
func longDigits(r *rand.Rand, n int) string {
	digits := []byte{'9'}
	for len(digits) < n {
		digits = append(digits, byte('0'+r.Intn(10)))
	}
	return string(digits)
}

// rat is a fraction as the library has it.
func rat(f frac.Frac) *big.Rat {
	r, _ := new(big.Rat).SetString(f.Text())
	return r
}

// rats are the same of some.
func rats(l []frac.Frac) []*big.Rat {
	var out []*big.Rat
	for _, f := range l {
		out = append(out, rat(f))
	}
	return out
}

// add, sub, mul and div leave their numbers as they are.
func add(x, y *big.Rat) *big.Rat { return new(big.Rat).Add(x, y) }
func sub(x, y *big.Rat) *big.Rat { return new(big.Rat).Sub(x, y) }
func mul(x, y *big.Rat) *big.Rat { return new(big.Rat).Mul(x, y) }
func div(x *big.Rat, n int) *big.Rat {
	return new(big.Rat).Quo(x, big.NewRat(int64(n), 1))
}

// meanOf is the mean of some numbers.
func meanOf(l []*big.Rat) *big.Rat {
	sum := new(big.Rat)
	for _, x := range l {
		sum.Add(sum, x)
	}
	return div(sum, len(l))
}

// besideOf is the sum of the squares of what numbers are beside their mean, divided by one less than there are.
func besideOf(l []*big.Rat) *big.Rat {
	mean, sum := meanOf(l), new(big.Rat)
	for _, x := range l {
		sum.Add(sum, mul(sub(x, mean), sub(x, mean)))
	}
	return div(sum, len(l)-1)
}
