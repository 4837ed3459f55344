package match_test

import (
	"math/big"
	"math/rand"
	"slices"
	"testing"

	"tontine/api"
	"tontine/frac"
	"tontine/match"
)

// wantShape fails unless a shape is this one, without an error.
func wantShape(t *testing.T, what string, s match.Shape, err error, worth, first, second string) {
	t.Helper()
	if err != nil || s.Worth.Text() != worth || s.First.Text() != first || s.Second.Text() != second {
		t.Errorf("%s: %s %s %s, %v, not %s %s %s", what, s.Worth.Text(), s.First.Text(), s.Second.Text(), err, worth, first, second)
	}
}

// 15.2: by hand.
func TestMeasure(t *testing.T) {
	for _, c := range []struct{ pay, rate, worth, first, second string }{
		{"", "0", "0", "0", "0"},
		{"", "-1", "0", "0", "0"},
		{"", "-5", "0", "0", "0"},
		{"7", "5%", "7", "0", "0"},
		{"7", "-99%", "7", "0", "0"},
		{"0 21", "5%", "20", "20", "20"},
		{"0 0 441", "5%", "400", "800", "1600"},
		{"1 2 3 4", "0", "10", "20", "50"},
		{"1 1 1", "1", "7/4", "1", "3/2"},
		{"1 1 1", "-1/2", "7", "10", "18"},
		{"-1 0 4", "1", "0", "2", "4"},
		{"1/2 1/3", "1/7", "19/24", "7/24", "7/24"},
		{"0 0 0", "1/7", "0", "0", "0"},
	} {
		s, err := match.Measure(fracs(t, c.pay), one(t, c.rate))
		wantShape(t, c.pay+" at "+c.rate, s, err, c.worth, c.first, c.second)
	}
}

// 15.2: how many payments there may be, and at which rates.
func TestMeasureErrors(t *testing.T) {
	for _, rate := range []string{"0", "-1", "-2", "1"} {
		s, err := match.Measure(make([]frac.Frac, api.MaxYears+1), one(t, rate))
		wantError(t, "a payment too many at "+rate, err, api.ErrLimit, s)
	}
	for _, rate := range []string{"-1", "-1000001/1000000", "-5"} {
		for _, n := range []int{1, 2, api.MaxYears} {
			s, err := match.Measure(make([]frac.Frac, n), one(t, rate))
			wantError(t, "a rate of "+rate, err, api.ErrArg, s)
		}
	}
	all := slices.Repeat(fracs(t, "1"), api.MaxYears)
	s, err := match.Measure(all, frac.Frac{})
	wantShape(t, "the most payments", s, err, "120", "7140", "568820")
	s, err = match.Measure(fracs(t, "1 1"), one(t, "-999999/1000000"))
	wantShape(t, "a rate nearly -1", s, err, "1000001", "1000000", "1000000")
}

// shapeOf are the three sums by the document's words.
func shapeOf(t *testing.T, pay []frac.Frac, rate frac.Frac) [3]*big.Rat {
	t.Helper()
	out := [3]*big.Rat{whole(0), whole(0), whole(0)}
	v := quo(whole(1), add(whole(1), rat(t, rate)))
	for time, p := range rats(t, pay) {
		worth := mul(p, pow(v, time))
		out[0] = add(out[0], worth)
		out[1] = add(out[1], mul(whole(time), worth))
		out[2] = add(out[2], mul(whole(time*time), worth))
	}
	return out
}

// 15.2: drawn payments, by the document's words; the most of them, and long ones, too.
func TestMeasureDrawn(t *testing.T) {
	r := rand.New(rand.NewSource(4))
	for i := range 300 {
		n, digits := r.Intn(12), 1+r.Intn(12)
		if i%50 == 0 {
			n = api.MaxYears
		}
		if i%50 == 1 {
			digits = api.MaxDigits
		}
		var pay []frac.Frac
		for range n {
			p := drawn(t, r, digits)
			if r.Intn(2) == 0 {
				p = p.Neg()
			}
			pay = append(pay, p)
		}
		rate := drawn(t, r, digits)
		if r.Intn(2) == 0 { // between -1 and 0
			rate, _ = rate.Neg().Div(rate.Add(one(t, "1/100")))
		}
		s, err := match.Measure(pay, rate)
		wanted := shapeOf(t, pay, rate)
		for k, f := range []frac.Frac{s.Worth, s.First, s.Second} {
			if err != nil || rat(t, f).Cmp(wanted[k]) != 0 {
				t.Fatalf("%s at %s: %s at %d, %v", frac.Words(pay), rate.Text(), f.Text(), k, err)
			}
		}
	}
}

// 15.2: worth the same, alike by the rate, and spread more: all three are asked.
func TestImmune(t *testing.T) {
	for _, c := range []struct {
		what, assets, debts, rate string
		immune                    bool
	}{
		{"spread more", "1 0 1", "0 2", "0", true},
		{"spread less", "0 2", "1 0 1", "0", false},
		{"the same", "0 2", "0 2", "0", false},
		{"nothing", "", "", "0", false},
		{"nothing at a rate of -1", "", "", "-1", false},
		{"nothing, and noughts", "0 0", "", "1", false},
		{"worth more", "2 0 1", "0 2", "0", false},
		{"worth less", "0 0 1", "0 2", "0", false},
		{"later", "0 0 1 1", "0 2", "0", false},
		{"earlier", "2 0 0", "0 2", "0", false},
		{"at another rate", "1 0 1", "0 2", "1", false},
		{"at its rate", "1 0 4", "0 4", "1", true},
		{"at its rate below 0", "1 0 1/4", "0 1", "-1/2", true},
		{"worth the same, but not alike by the rate", "1 0 0 1", "0 2", "0", false},
		{"alike, but not worth the same", "9 0 1", "0 2", "0", false},
	} {
		immune, err := match.Immune(fracs(t, c.assets), fracs(t, c.debts), one(t, c.rate))
		if err != nil || immune != c.immune {
			t.Errorf("%s: %v, %v", c.what, immune, err)
		}
	}
}

// 15.2: what Measure says of assets, then of debts.
func TestImmuneErrors(t *testing.T) {
	long, short, none := make([]frac.Frac, api.MaxYears+1), make([]frac.Frac, 1), []frac.Frac(nil)
	for _, c := range []struct {
		what          string
		assets, debts []frac.Frac
		rate          string
		e             api.Errno
	}{
		{"too many assets", long, none, "0", api.ErrLimit},
		{"too many debts", none, long, "0", api.ErrLimit},
		{"too many of both", long, long, "-1", api.ErrLimit},
		{"assets at -1", short, none, "-1", api.ErrArg},
		{"debts at -1", none, short, "-1", api.ErrArg},
		{"too many assets, and debts at -1", long, short, "-1", api.ErrLimit},
		{"assets at -1, and too many debts", short, long, "-1", api.ErrArg},
		{"no assets at -1, and too many debts", none, long, "-1", api.ErrLimit},
	} {
		immune, err := match.Immune(c.assets, c.debts, one(t, c.rate))
		wantError(t, c.what, err, c.e, immune)
	}
}

// 15.3: by hand.
func TestPair(t *testing.T) {
	for _, c := range []struct {
		debt              string
		at, ahead, behind int
		rate, x, y        string
	}{
		{"2", 1, 0, 2, "0", "1", "1"},
		{"4", 1, 0, 2, "1", "1", "4"},
		{"1", 1, 0, 2, "-1/2", "1", "1/4"},
		{"3", 1, 0, 3, "0", "2", "1"},
		{"3", 2, 0, 3, "0", "1", "2"},
		{"1", 5, 3, 9, "1", "1/6", "16/3"},
		{"0", 5, 3, 9, "1", "0", "0"},
		{"120", 1, 0, api.MaxYears, "0", "119", "1"},
		{"120", 119, 0, api.MaxYears, "0", "1", "119"},
		{"1/3", 119, 118, api.MaxYears, "1/7", "7/48", "4/21"},
	} {
		x, y, err := match.Pair(one(t, c.debt), c.at, c.ahead, c.behind, one(t, c.rate))
		if err != nil || x.Text() != c.x || y.Text() != c.y {
			t.Errorf("%s at %d by %d and %d at %s: %s and %s, %v", c.debt, c.at, c.ahead, c.behind, c.rate, x.Text(), y.Text(), err)
		}
	}
}

// 15.3: what may not be, in its order.
func TestPairErrors(t *testing.T) {
	for _, c := range [][3]int{{1, -1, 2}, {1, 1, 2}, {1, 2, 3}, {2, 1, 2}, {3, 1, 2}, {1, 0, 1}, {0, 0, 1}, {0, -1, 1}, {1, 0, api.MaxYears + 1}, {1, 2, 0}, {leastInt, leastInt, leastInt}, {0, leastInt, greatestInt}, {greatestInt, 0, 3}, {1, 0, greatestInt}, {1, greatestInt, 2}} {
		for _, rate := range []string{"0", "-1"} {
			x, y, err := match.Pair(one(t, "-1"), c[0], c[1], c[2], one(t, rate))
			wantError(t, "times", err, api.ErrRange, x, y)
			x, y, err = match.Pair(one(t, "1"), c[0], c[1], c[2], one(t, rate))
			wantError(t, "times", err, api.ErrRange, x, y)
		}
	}
	for _, c := range [][2]string{{"1", "-1"}, {"1", "-2"}, {"0", "-1"}, {"-1", "0"}, {"-1/1000000", "5%"}, {"-1", "-1"}} {
		x, y, err := match.Pair(one(t, c[0]), 1, 0, 2, one(t, c[1]))
		wantError(t, c[0]+" at "+c[1], err, api.ErrArg, x, y)
	}
}

// 15.3: drawn: both are worth what the debt is, and alike by the rate; and no less at any other rate.
func TestPairDrawn(t *testing.T) {
	r := rand.New(rand.NewSource(5))
	for i := range 300 {
		ahead := r.Intn(10)
		at := ahead + 1 + r.Intn(10)
		behind := at + 1 + r.Intn(10)
		if i%30 == 0 {
			ahead, at, behind = 0, 1+r.Intn(api.MaxYears-1), api.MaxYears
		}
		debt, rate := drawn(t, r, 1+r.Intn(9)).Add(frac.Whole(1)), drawn(t, r, 1+r.Intn(9))
		x, y, err := match.Pair(debt, at, ahead, behind, rate)
		if err != nil || x.Sign() <= 0 || y.Sign() <= 0 {
			t.Fatalf("%s and %s, %v", x.Text(), y.Text(), err)
		}
		for _, other := range []string{"0", "5%", "1", "7", "-1/2", "-9/10", rate.Text()} {
			each := add(whole(1), rat(t, one(t, other)))
			due := quo(rat(t, debt), pow(each, at))
			one, two := quo(rat(t, x), pow(each, ahead)), quo(rat(t, y), pow(each, behind))
			all := add(one, two)
			if all.Cmp(due) < 0 {
				t.Errorf("%s: worth less at %s", debt.Text(), other)
			}
			first := add(mul(whole(ahead), one), mul(whole(behind), two))
			if other == rate.Text() && (all.Cmp(due) != 0 || first.Cmp(mul(whole(at), due)) != 0) {
				t.Errorf("%s: not alike at %s", debt.Text(), other)
			}
		}
		if behind < api.MaxYears && ahead > 0 {
			assets, debts := make([]frac.Frac, behind+1), make([]frac.Frac, at+1)
			assets[ahead], assets[behind], debts[at] = x, y, debt
			if immune, err := match.Immune(assets, debts, rate); err != nil || !immune {
				t.Errorf("%s: not immune, %v", debt.Text(), err)
			}
		}
	}
}

// P4: payments are not written into, nor what stands behind them.
func TestShapeMemory(t *testing.T) {
	pay, more := fracs(t, "1/2 1/3 5"), fracs(t, "1/7 1/9 5")
	if _, err := match.Immune(pay[:2], more[:2], one(t, "1/7")); err != nil {
		t.Fatal(err)
	}
	if _, err := match.Measure(pay[:2], one(t, "1/7")); err != nil {
		t.Fatal(err)
	}
	if frac.Words(pay) != "1/2 1/3 5" || frac.Words(more) != "1/7 1/9 5" {
		t.Errorf("%s, %s", frac.Words(pay), frac.Words(more))
	}
}
