package flow_test

import (
	"fmt"
	"math/big"
	"math/rand"
	"slices"
	"testing"

	"tontine/api"
	"tontine/flow"
	"tontine/frac"
)

// wrongRates are rates that may not be, and why; ErrLimit is told ahead of ErrArg.
func wrongRates(t *testing.T) map[string]struct {
	rates []frac.Frac
	e     api.Errno
} {
	type wrong = struct {
		rates []frac.Frac
		e     api.Errno
	}
	return map[string]wrong{
		"-1":                 {fracs(t, "-1"), api.ErrArg},
		"below -1":           {fracs(t, "-3/2"), api.ErrArg},
		"just below -1":      {fracs(t, "-1000000000000000000000000000001/1000000000000000000000000000000"), api.ErrArg},
		"the last one":       {fracs(t, "1/20 0 -1/2 -1"), api.ErrArg},
		"the first one":      {fracs(t, "-2 1/20"), api.ErrArg},
		"as many as may be":  {append(make([]frac.Frac, api.MaxYears-1), frac.Whole(-1)), api.ErrArg},
		"a year too many":    {make([]frac.Frac, api.MaxYears+1), api.ErrLimit},
		"many more, and -1":  {slices.Repeat(fracs(t, "-1"), 10*api.MaxYears), api.ErrLimit},
		"one too many is -1": {append(make([]frac.Frac, api.MaxYears), frac.Whole(-1)), api.ErrLimit},
	}
}

// 4.1: Discounts.
func TestDiscounts(t *testing.T) {
	for _, c := range []struct{ rates, discounts string }{
		{"", "1"}, {"0", "1 1"}, {"5%", "1 20/21"}, {"5% 5%", "1 20/21 400/441"}, {"1 1/2 1/3", "1 1/2 1/3 1/4"}, {"-1/2", "1 2"}, {"-1/2 1 -9/10", "1 2 1 10"},
		{"99999999999999999999", "1 1/100000000000000000000"}, {"-99999999999999999999/100000000000000000000 0", "1 100000000000000000000 100000000000000000000"},
	} {
		l, err := flow.Discounts(fracs(t, c.rates))
		if err != nil || frac.Words(l) != c.discounts {
			t.Errorf("%s: %s, %v, not %s", c.rates, frac.Words(l), err, c.discounts)
		}
	}
	for what, c := range wrongRates(t) {
		l, err := flow.Discounts(c.rates)
		wantError(t, what, err, c.e, l)
	}
	l, err := flow.Discounts(slices.Repeat(fracs(t, "1"), api.MaxYears))
	if err != nil || len(l) != api.MaxYears+1 {
		t.Fatalf("%d discounts, %v", len(l), err)
	}
	half, _ := one(t, "1/2").Pow(api.MaxYears)
	want(t, "the last discount", l[api.MaxYears], nil, half.Text())
}

// 4.1: Value and Grown.
func TestValueAndGrown(t *testing.T) {
	for _, c := range []struct{ pay, rates, value, grown string }{
		{"", "", "0", "0"}, {"7", "", "7", "7"}, {"-7/2", "", "-7/2", "-7/2"},
		{"", "5% 5%", "0", "0"}, {"100", "5%", "100", "105"}, {"100", "5% 10%", "100", "231/2"},
		{"0 105", "5%", "100", "105"}, {"0 105", "5% 10%", "100", "231/2"}, {"100 105", "5%", "200", "210"},
		{"1 1 1", "1 1/2", "11/6", "11/2"}, {"-100 5 5 105", "5% 5% 5%", "0", "0"}, {"6 3 1", "-1/2 -1/2", "16", "4"}, {"1 2 3", "0 0 0 0", "6", "6"},
		{"1 -2 3", "1 1", "3/4", "3"},
	} {
		pay, rates := fracs(t, c.pay), fracs(t, c.rates)
		f, err := flow.Value(pay, rates)
		want(t, "Value of "+c.pay+" at "+c.rates, f, err, c.value)
		f, err = flow.Grown(pay, rates)
		want(t, "Grown of "+c.pay+" at "+c.rates, f, err, c.grown)
	}
}

// 4.1: errors of Value and Grown: what Discounts says, then ErrForm.
func TestValueErrors(t *testing.T) {
	for what, c := range wrongRates(t) {
		for _, n := range []int{0, 1, len(c.rates) + 1, len(c.rates) + 2, 1000} {
			pay := make([]frac.Frac, n)
			f, err := flow.Value(pay, c.rates)
			wantError(t, "Value, "+what, err, c.e, f)
			f, err = flow.Grown(pay, c.rates)
			wantError(t, "Grown, "+what, err, c.e, f)
		}
	}
	for _, years := range []int{0, 1, 2, 5, api.MaxYears} {
		rates := make([]frac.Frac, years)
		for n, e := range map[int]api.Errno{years + 1: api.OK, years + 2: api.ErrForm, years + 3: api.ErrForm, 1_000_000: api.ErrForm} {
			pay := make([]frac.Frac, n)
			pay[n-1] = frac.Whole(7)
			what := fmt.Sprintf("%d payments, %d rates", n, years)
			f, err := flow.Value(pay, rates)
			g, errToo := flow.Grown(pay, rates)
			if e == api.OK {
				want(t, what, f, err, "7")
				want(t, what, g, errToo, "7")
				continue
			}
			wantError(t, what, err, e, f)
			wantError(t, what, errToo, e, g)
		}
	}
}

// 4.1: all three against the library, as the document tells them; what is handed in stays as it was.
func TestFlowOfAll(t *testing.T) {
	r := rand.New(rand.NewSource(41))
	for round := range 600 {
		years := r.Intn(9)
		rates, pay := drawnList(r, years, drawnRate), drawnList(r, r.Intn(years+2), drawn)
		if round%20 == 0 {
			long := func(r *rand.Rand) frac.Frac { return drawnLong(r, 25) }
			rates, pay = drawnList(r, years, long), drawnList(r, years+1, long)
		}
		what := frac.Words(pay) + " at " + frac.Words(rates)
		discounts, err := flow.Discounts(rates)
		value, errToo := flow.Value(pay, rates)
		grown, errThree := flow.Grown(pay, rates)
		if err != nil || errToo != nil || errThree != nil || len(discounts) != years+1 {
			t.Fatalf("%s: %d discounts, %v, %v, %v", what, len(discounts), err, errToo, errThree)
		}
		asked, sum := big.NewRat(1, 1), new(big.Rat)
		for k := range years + 1 {
			if k > 0 {
				asked = new(big.Rat).Quo(asked, new(big.Rat).Add(big.NewRat(1, 1), rat(t, rates[k-1])))
			}
			wantRat(t, "Discounts of "+what, discounts[k], asked)
			if k < len(pay) {
				sum.Add(sum, new(big.Rat).Mul(asked, rat(t, pay[k])))
			}
		}
		wantRat(t, "Value of "+what, value, sum)
		wantRat(t, "Grown of "+what, grown, sum.Quo(sum, asked))
		if frac.Words(pay)+" at "+frac.Words(rates) != what {
			t.Fatalf("%s became %s at %s", what, frac.Words(pay), frac.Words(rates))
		}
	}
}

// P4: what comes out is the caller's, and what stands behind a list's length is neither read nor written.
func TestOwnMemory(t *testing.T) {
	room := fracs(t, "1 1 -1 -1 9 8")
	before := frac.Words(room)
	for range 2 {
		l, err := flow.Discounts(room[:2])
		if err != nil || frac.Words(l) != "1 1/2 1/4" {
			t.Fatalf("%s, %v", frac.Words(l), err)
		}
		clear(l)
		f, err := flow.Value(room[4:5], room[:2])
		want(t, "Value", f, err, "9")
		f, err = flow.Grown(room[4:5], room[:2])
		want(t, "Grown", f, err, "36")
		pay, parts, err := flow.Loan(room[4], room[:2])
		want(t, "Loan", pay, err, "12")
		clear(parts)
		units, err := flow.Units(9, 1, room[:2])
		if err != nil || !slices.Equal(units, []int{1, 34}) {
			t.Errorf("%v, %v", units, err)
		}
		clear(units)
		spans, err := flow.Yields(room[1:3], 0)
		if err != nil || written(spans) != "0 1" {
			t.Errorf("%s, %v", written(spans), err)
		}
		clear(spans)
		if frac.Words(room) != before {
			t.Fatalf("what was handed in became %s", frac.Words(room))
		}
	}
}

// 4.1, 4.2: as many years as may be, of fractions as long as texts can have them.
func TestLongYears(t *testing.T) {
	r := rand.New(rand.NewSource(42))
	long := func(r *rand.Rand) frac.Frac { return drawnLong(r, api.MaxDigits) }
	rates, pay := drawnList(r, api.MaxYears, long), drawnList(r, api.MaxYears+1, long)
	discounts, err := flow.Discounts(rates)
	if err != nil || len(discounts) != api.MaxYears+1 {
		t.Fatalf("%d discounts, %v", len(discounts), err)
	}
	value, err := flow.Value(pay, rates)
	if err != nil {
		t.Fatal(err)
	}
	grown, err := flow.Grown(pay, rates)
	if err != nil || grown.Mul(discounts[api.MaxYears]).Cmp(value) != 0 {
		t.Errorf("Grown is not Value divided by the last discount: %v", err)
	}
	_, parts, err := flow.Loan(pay[0], rates)
	if err != nil || len(parts) != api.MaxYears || parts[api.MaxYears-1].Left.Sign() != 0 {
		t.Errorf("%d parts, %v", len(parts), err)
	}
}
