package claims_test

import (
	"math/big"
	"math/rand"
	"reflect"
	"slices"
	"strings"
	"testing"

	"tontine/api"
	"tontine/claims"
	"tontine/frac"
)

const (
	leastInt    = -1 << 63
	greatestInt = 1<<63 - 1
)

// wantError fails unless there is just this error, without a place, and the other result is its zero value.
func wantError(t *testing.T, what string, err error, e api.Errno, other any) {
	t.Helper()
	if err != error(e) {
		t.Errorf("%s: %v, not %v", what, err, e)
	}
	if !reflect.ValueOf(other).IsZero() {
		t.Errorf("%s: %v beside an error", what, other)
	}
}

// want fails unless a fraction is written so, without an error.
func want(t *testing.T, what string, f frac.Frac, err error, text string) {
	t.Helper()
	if err != nil {
		t.Errorf("%s: %v", what, err)
	}
	if f.Text() != text {
		t.Errorf("%s: %s, not %s", what, f.Text(), text)
	}
}

// wantRow fails unless fractions are written so, without an error.
func wantRow(t *testing.T, what string, l []frac.Frac, err error, text string) {
	t.Helper()
	if err != nil {
		t.Errorf("%s: %v", what, err)
	}
	if frac.Words(l) != text {
		t.Errorf("%s: %s, not %s", what, frac.Words(l), text)
	}
}

// wantRats fails unless fractions are what the library reckons, without an error.
func wantRats(t *testing.T, what string, l []frac.Frac, err error, rats []*big.Rat) {
	t.Helper()
	wantRow(t, what, l, err, texts(rats))
}

// texts are fractions of the library, written.
func texts(l []*big.Rat) string {
	var out []string
	for _, r := range l {
		out = append(out, r.RatString())
	}
	return strings.Join(out, " ")
}

// one is the fraction of a text.
func one(t *testing.T, text string) frac.Frac {
	t.Helper()
	f, err := frac.Parse(text)
	if err != nil {
		t.Fatalf("Parse(%q): %v", text, err)
	}
	return f
}

// law is that of a text, with blanks between its numbers.
func law(t *testing.T, text string) claims.Law {
	t.Helper()
	var l claims.Law
	for _, w := range strings.Fields(text) {
		l = append(l, one(t, w))
	}
	return l
}

// sure is the law of one amount, with so many noughts behind it.
func sure(amount, noughts int) claims.Law {
	l := make(claims.Law, amount+1+noughts)
	l[amount] = frac.Whole(1)
	return l
}

// even is the law whose amounts up to one are all as likely.
func even(greatest int) claims.Law {
	l := make(claims.Law, greatest+1)
	for i := range l {
		l[i], _ = frac.Of(1, greatest+1)
	}
	return l
}

// rat is a fraction as the library has it.
func rat(f frac.Frac) *big.Rat {
	r, _ := new(big.Rat).SetString(f.Text())
	return r
}

// way is an amount that may come, and how likely it does.
type way struct {
	amount int
	chance *big.Rat
}

// nothing is the one way in which nothing comes.
func nothing() []way { return []way{{0, big.NewRat(1, 1)}} }

// waysOf are those of a law.
func waysOf(l claims.Law) []way {
	var out []way
	for amount, f := range l {
		if f.Sign() != 0 {
			out = append(out, way{amount, rat(f)})
		}
	}
	return out
}

// both are all ways in which one of each comes.
func both(a, b []way) []way {
	var out []way
	for _, x := range a {
		for _, y := range b {
			out = append(out, way{x.amount + y.amount, new(big.Rat).Mul(x.chance, y.chance)})
		}
	}
	return out
}

// repeated are all ways in which n of one kind come.
func repeated(l []way, n int) []way {
	out := nothing()
	for range n {
		out = both(out, l)
	}
	return out
}

// row is how likely each amount is, up to one.
func row(l []way, upTo int) []*big.Rat {
	out := make([]*big.Rat, upTo+1)
	for i := range out {
		out[i] = new(big.Rat)
	}
	for _, w := range l {
		if w.amount <= upTo {
			out[w.amount].Add(out[w.amount], w.chance)
		}
	}
	return out
}

// lawRow is the same up to the greatest amount that may come.
func lawRow(l []way) []*big.Rat {
	most := 0
	for _, w := range l {
		if w.chance.Sign() != 0 {
			most = max(most, w.amount)
		}
	}
	return row(l, most)
}

// drawnAtoms are some amounts up to one, sorted: a law's, each as likely as the others.
func drawnAtoms(r *rand.Rand, greatest int) []int {
	var out []int
	for range 1 + r.Intn(12) {
		out = append(out, r.Intn(greatest+1))
	}
	slices.Sort(out)
	return out
}

// lawOf is the law of such amounts, with so many noughts behind it.
func lawOf(atoms []int, noughts int) claims.Law {
	l := make(claims.Law, slices.Max(atoms)+1+noughts)
	for _, amount := range atoms {
		part, _ := frac.Of(1, len(atoms))
		l[amount] = l[amount].Add(part)
	}
	return l
}

// drawnLaw is a law of amounts up to one, at times with noughts behind it.
func drawnLaw(r *rand.Rand, greatest int) claims.Law {
	return lawOf(drawnAtoms(r, greatest), max(0, r.Intn(5)-2))
}

// longLaw has so many numbers, of as many digits as a text's numbers have, each over a lower number of its own.
func longLaw(t *testing.T, r *rand.Rand, numbers int) claims.Law {
	t.Helper()
	l := make(claims.Law, numbers)
	var rest frac.Frac
	for i := 1; i < numbers; i++ {
		l[i] = one(t, drawnDigits(r, api.MaxDigits-3)+"/"+drawnDigits(r, api.MaxDigits))
		rest = rest.Add(l[i])
	}
	l[0] = frac.Whole(1).Sub(rest)
	return l
}

// drawnDigits is a number of so many digits.
func drawnDigits(r *rand.Rand, n int) string {
	digits := []byte{'9'}
	for len(digits) < n {
		digits = append(digits, byte('0'+r.Intn(10)))
	}
	return string(digits)
}
