package flow_test

import (
	"fmt"
	"math/big"
	"math/rand"
	"slices"
	"strings"
	"testing"

	"tontine/api"
	"tontine/flow"
	"tontine/frac"
)

// writtenParts are a loan's years as a text.
func writtenParts(l []flow.Part) string {
	var texts []string
	for _, p := range l {
		texts = append(texts, frac.Words([]frac.Frac{p.Interest, p.Back, p.Left}))
	}
	return strings.Join(texts, "; ")
}

// 4.2: Loan.
func TestLoan(t *testing.T) {
	for _, c := range []struct{ debt, rates, pay, parts string }{
		{"100", "5%", "105", "5 100 0"}, {"210", "10% 10%", "121", "21 100 110; 11 110 0"}, {"90", "0 0 0", "30", "0 30 60; 0 30 30; 0 30 0"},
		{"100", "-1/2", "50", "-50 100 0"}, {"6", "-1/2 0", "3/2", "-3 9/2 3/2; 0 3/2 0"}, {"15", "1 1/2", "18", "15 3 12; 6 12 0"},
		{"0", "5% 5%", "0", "0 0 0; 0 0 0"}, {"-210", "10% 10%", "-121", "-21 -100 -110; -11 -110 0"}, {"1/3", "1", "2/3", "1/3 1/3 0"},
		{"30", "0 1", "20", "0 20 10; 10 10 0"},
	} {
		pay, parts, err := flow.Loan(one(t, c.debt), fracs(t, c.rates))
		want(t, c.debt+" at "+c.rates, pay, err, c.pay)
		if writtenParts(parts) != c.parts {
			t.Errorf("%s at %s: %s, not %s", c.debt, c.rates, writtenParts(parts), c.parts)
		}
	}
}

// 4.2: errors of Loan.
func TestLoanErrors(t *testing.T) {
	for what, c := range wrongRates(t) {
		pay, parts, err := flow.Loan(frac.Whole(100), c.rates)
		wantError(t, what, err, c.e, pay, parts)
	}
	for _, rates := range [][]frac.Frac{nil, {}} {
		pay, parts, err := flow.Loan(frac.Whole(100), rates)
		wantError(t, "no rates", err, api.ErrArg, pay, parts)
		pay, parts, err = flow.Loan(frac.Frac{}, rates)
		wantError(t, "no rates, no debt", err, api.ErrArg, pay, parts)
	}
}

// 4.2: the debt is Value of what is paid; each year's interest and what is paid back are what is paid; nothing is left at last.
func TestLoanOfAll(t *testing.T) {
	r := rand.New(rand.NewSource(43))
	for range 300 {
		debt, rates := drawn(r), drawnList(r, 1+r.Intn(8), drawnRate)
		what := debt.Text() + " at " + frac.Words(rates)
		pay, parts, err := flow.Loan(debt, rates)
		if err != nil || len(parts) != len(rates) {
			t.Fatalf("%s: %d parts, %v", what, len(parts), err)
		}
		payments := slices.Repeat([]frac.Frac{pay}, len(rates)+1)
		payments[0] = frac.Frac{}
		value, err := flow.Value(payments, rates)
		want(t, "Value of what is paid for "+what, value, err, debt.Text())
		left := rat(t, debt)
		for i, p := range parts {
			interest := new(big.Rat).Mul(rat(t, rates[i]), left)
			back := new(big.Rat).Sub(rat(t, pay), interest)
			left = new(big.Rat).Sub(left, back)
			wantRat(t, "interest, "+what, p.Interest, interest)
			wantRat(t, "back, "+what, p.Back, back)
			wantRat(t, "left, "+what, p.Left, left)
		}
		if left.Sign() != 0 {
			t.Fatalf("%s: %s is left", what, left.RatString())
		}
	}
}

// 4.3: Units.
func TestUnits(t *testing.T) {
	for _, c := range []struct {
		debt, pay int
		rates     string
		paid      []int
	}{
		{100, 10, "5%", []int{105}}, {100, 60, "0 0", []int{60, 40}}, {100, 40, "10% 10% 10%", []int{40, 40, 41}}, {100, 0, "0 0 0", []int{0, 0, 100}},
		{100, 100, "0 0 0", []int{100, 0, 0}}, {100, 1000, "5% 5%", []int{105, 0}}, {100, 105, "5% 5%", []int{105, 0}}, {100, 104, "5% 0", []int{104, 1}},
		{0, 0, "5%", []int{0}}, {0, 10, "5% 5%", []int{0, 0}}, {0, api.MaxUnits, "1", []int{0}},
		// interest is rounded to the nearest, of two to the even one
		{1, 0, "1/2", []int{1}}, {3, 0, "1/2", []int{5}}, {5, 0, "1/2", []int{7}}, {7, 0, "1/2", []int{11}}, {10, 0, "5%", []int{10}}, {30, 0, "5%", []int{32}}, {50, 0, "5%", []int{52}}, {10, 0, "51/1000", []int{11}}, {10, 0, "149/1000", []int{11}},
		{1, 0, "-1/2", []int{1}}, {3, 0, "-1/2", []int{1}}, {5, 0, "-1/2", []int{3}}, {7, 0, "-1/2", []int{3}}, {1, 0, "-51/100", []int{0}}, {1, 0, "-999/1000", []int{0}}, {10, 2, "-9/10 0", []int{1, 0}}, {100, 20, "-1/2 -1/2 0", []int{20, 15, 0}},
		{10, 3, "-99/100 5", []int{0, 0}}, {1, 1, "-1/2 -1/2", []int{1, 0}},
		// year by year, what was rounded bears interest
		{10, 0, "4% 4% 4%", []int{0, 0, 10}}, {10, 0, "6% 6% 6%", []int{0, 0, 13}}, {10, 1, "6% 6% 6%", []int{1, 1, 11}},
		{api.MaxUnits, 0, "0", []int{api.MaxUnits}}, {api.MaxUnits, api.MaxUnits, "0 0", []int{api.MaxUnits, 0}}, {api.MaxUnits, 1, "1/1000000000000000 0", []int{1, api.MaxUnits}}, {1, 0, "999999999999999", []int{api.MaxUnits}},
		{api.MaxUnits, api.MaxUnits, "1 0", []int{api.MaxUnits, api.MaxUnits}},
		// what is left between may be beyond all bounds
		{1, 0, "999999999999999999999999999999 -999999999999999999999999999998/1000000000000000000000000000000", []int{0, 2}},
		{api.MaxUnits, 0, "99 99 99 -99/100 -99/100 -99/100", []int{0, 0, 0, 0, 0, api.MaxUnits}},
	} {
		paid, err := flow.Units(c.debt, c.pay, fracs(t, c.rates))
		if err != nil || !slices.Equal(paid, c.paid) {
			t.Errorf("%d, %d a year, at %s: %v, %v, not %v", c.debt, c.pay, c.rates, paid, err, c.paid)
		}
	}
}

// 4.3: errors of Units: ErrRange, ErrArg without rates, what Discounts says, then ErrLimit.
func TestUnitsErrors(t *testing.T) {
	beyond := []int{-1, api.MaxUnits + 1, leastInt, greatestInt}
	for _, n := range beyond {
		for _, rates := range [][]frac.Frac{fracs(t, "5%"), nil, fracs(t, "-1"), make([]frac.Frac, api.MaxYears+1)} {
			paid, err := flow.Units(n, 5, rates)
			wantError(t, fmt.Sprint("debt ", n), err, api.ErrRange, paid)
			paid, err = flow.Units(5, n, rates)
			wantError(t, fmt.Sprint("pay ", n), err, api.ErrRange, paid)
		}
	}
	for _, rates := range [][]frac.Frac{nil, {}} {
		paid, err := flow.Units(100, 5, rates)
		wantError(t, "no rates", err, api.ErrArg, paid)
	}
	for what, c := range wrongRates(t) {
		paid, err := flow.Units(api.MaxUnits, 5, c.rates)
		wantError(t, what, err, c.e, paid)
	}
	for _, c := range []struct {
		debt, pay int
		rates     string
	}{
		{api.MaxUnits, 0, "1/1000000000000000"}, {api.MaxUnits, 1, "2/1000000000000000 0"}, {1, 0, "1000000000000000"}, {1, 0, "99999999999999999999999999"}, {api.MaxUnits, api.MaxUnits, "2 0"}, {api.MaxUnits, api.MaxUnits, "9223372036854775807"}, {1, 1, "99999999999999999999999999 99999999999999999999999999"},
	} {
		paid, err := flow.Units(c.debt, c.pay, fracs(t, c.rates))
		wantError(t, fmt.Sprintf("%d, %d a year, at %s", c.debt, c.pay, c.rates), err, api.ErrLimit, paid)
	}
}

// nearest is the nearest whole number of the library's, of two the even one.
func nearest(r *big.Rat) *big.Int {
	twice := new(big.Rat).Add(r, r)
	twice.Add(twice, big.NewRat(1, 1))
	half := new(big.Int).Mul(r.Denom(), big.NewInt(2))
	up := new(big.Int).Div(new(big.Int).Add(new(big.Int).Mul(r.Num(), big.NewInt(2)), r.Denom()), half) // what is between two, up
	if twice.IsInt() && new(big.Int).Rem(twice.Num(), big.NewInt(2)).Sign() == 0 && up.Bit(0) == 1 {
		up.Sub(up, big.NewInt(1))
	}
	return up
}

// 4.3: Units against the library, year by year.
func TestUnitsOfAll(t *testing.T) {
	r := rand.New(rand.NewSource(44))
	for range 3000 {
		rates := drawnList(r, 1+r.Intn(8), drawnRate)
		debt, pay := r.Intn(2000), r.Intn(400)
		if r.Intn(4) == 0 {
			debt, pay = r.Intn(api.MaxUnits+1), r.Intn(api.MaxUnits+1)
		}
		left, asked := big.NewInt(int64(debt)), []int(nil)
		for i, rate := range rates {
			left.Add(left, nearest(new(big.Rat).Mul(rat(t, rate), new(big.Rat).SetInt(left))))
			due := big.NewInt(int64(pay))
			if due.Cmp(left) > 0 || i == len(rates)-1 {
				due.Set(left)
			}
			left.Sub(left, due)
			if due.Cmp(big.NewInt(api.MaxUnits)) > 0 {
				asked = nil
				break
			}
			asked = append(asked, int(due.Int64()))
		}
		what := fmt.Sprintf("%d, %d a year, at %s", debt, pay, frac.Words(rates))
		paid, err := flow.Units(debt, pay, rates)
		if asked == nil {
			wantError(t, what, err, api.ErrLimit, paid)
		} else if err != nil || !slices.Equal(paid, asked) {
			t.Fatalf("%s: %v, %v, not %v", what, paid, err, asked)
		}
	}
}
