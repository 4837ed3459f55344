package ruin_test

import (
	"math/big"
	"math/rand"
	"reflect"
	"strings"
	"testing"

	"tontine/api"
	"tontine/claims"
	"tontine/frac"
)

const (
	leastInt    = -1 << 63
	greatestInt = 1<<63 - 1
)

// wantError fails unless there is just this error, without a place, and the other result is its zero value.
func wantError(t *testing.T, what string, err error, e api.Errno, other any) {
	t.Helper()
	if err != error(e) {
		t.Errorf("%s: %v, not %v", what, err, e)
	}
	if !reflect.ValueOf(other).IsZero() {
		t.Errorf("%s: %v beside an error", what, other)
	}
}

// want fails unless a fraction is written so, without an error.
func want(t *testing.T, what string, f frac.Frac, err error, text string) {
	t.Helper()
	if err != nil {
		t.Errorf("%s: %v", what, err)
	}
	if f.Text() != text {
		t.Errorf("%s: %s, not %s", what, f.Text(), text)
	}
}

// wantSafe fails unless this is said, without an error.
func wantSafe(t *testing.T, what string, ok bool, err error, wanted bool) {
	t.Helper()
	if ok != wanted || err != nil {
		t.Errorf("%s: %v, %v, not %v", what, ok, err, wanted)
	}
}

// one is the fraction of a text.
func one(t *testing.T, text string) frac.Frac {
	t.Helper()
	f, err := frac.Parse(text)
	if err != nil {
		t.Fatalf("Parse(%q): %v", text, err)
	}
	return f
}

// law is that of a text, with blanks between its numbers.
func law(t *testing.T, text string) claims.Law {
	t.Helper()
	var l claims.Law
	for _, w := range strings.Fields(text) {
		l = append(l, one(t, w))
	}
	return l
}

// sure is the law of one amount, with so many noughts behind it.
func sure(amount, noughts int) claims.Law {
	l := make(claims.Law, amount+1+noughts)
	l[amount] = frac.Whole(1)
	return l
}

// rat is a fraction as the library has it.
func rat(f frac.Frac) *big.Rat {
	r, _ := new(big.Rat).SetString(f.Text())
	return r
}

// drawnLaw is a law of so many numbers, some of them noughts.
func drawnLaw(r *rand.Rand, numbers int) claims.Law {
	weights := make([]int, numbers)
	all := 0
	for i := range weights {
		weights[i] = max(0, r.Intn(30)-8)
		all += weights[i]
	}
	weights[r.Intn(numbers)]++
	l := make(claims.Law, numbers)
	for i, w := range weights {
		l[i], _ = frac.Of(w, all+1)
	}
	return l
}

// longLaw has so many numbers, of as many digits as a text's numbers have, each over a lower number of its own.
func longLaw(t *testing.T, r *rand.Rand, numbers int) claims.Law {
	t.Helper()
	l := make(claims.Law, numbers)
	var rest frac.Frac
	for i := 1; i < numbers; i++ {
		l[i] = one(t, drawnDigits(r, api.MaxDigits-3)+"/"+drawnDigits(r, api.MaxDigits))
		rest = rest.Add(l[i])
	}
	l[0] = frac.Whole(1).Sub(rest)
	return l
}

// drawnDigits is a number of so many digits.
func drawnDigits(r *rand.Rand, n int) string {
	digits := []byte{'9'}
	for len(digits) < n {
		digits = append(digits, byte('0'+r.Intn(10)))
	}
	return string(digits)
}

// ruinedWays is how likely ruin is, by going through all ways.
func ruinedWays(there, income int, l claims.Law, years int) *big.Rat {
	if there < 0 {
		return big.NewRat(1, 1)
	}
	sum := new(big.Rat)
	if years == 0 {
		return sum
	}
	for claim, chance := range l {
		if chance.Sign() != 0 {
			sum.Add(sum, new(big.Rat).Mul(rat(chance), ruinedWays(there+income-claim, income, l, years-1)))
		}
	}
	return sum
}

// ruinedForward is the same, year by year: of each amount, how likely it is there without ruin ahead of it.
func ruinedForward(start, income int, l claims.Law, years int) *big.Rat {
	ruined := new(big.Rat)
	now := map[int]*big.Rat{start: big.NewRat(1, 1)}
	for range years {
		next := map[int]*big.Rat{}
		for there, chance := range now {
			for claim, f := range l {
				part := new(big.Rat).Mul(chance, rat(f))
				to := there + income - claim
				switch {
				case to < 0:
					ruined.Add(ruined, part)
				case next[to] == nil:
					next[to] = part
				default:
					next[to].Add(next[to], part)
				}
			}
		}
		now = next
	}
	return ruined
}

// power is r to the power of n.
func power(r *big.Rat, n int) *big.Rat {
	if n < 0 {
		return power(new(big.Rat).Inv(r), -n)
	}
	out := big.NewRat(1, 1)
	for range n {
		out.Mul(out, r)
	}
	return out
}

// bounded tells whether the mean of r^(claim - income) is at most 1.
func bounded(income int, l claims.Law, r *big.Rat) bool {
	mean := new(big.Rat)
	for claim, chance := range l {
		mean.Add(mean, new(big.Rat).Mul(rat(chance), power(r, claim-income)))
	}
	return mean.Cmp(big.NewRat(1, 1)) <= 0
}
