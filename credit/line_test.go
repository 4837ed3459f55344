package credit_test

import (
	"fmt"
	"math/big"
	"math/rand"
	"slices"
	"strings"
	"testing"

	"tontine/api"
	"tontine/credit"
	"tontine/frac"
)

// 11.2: both calls say what is wrong with kinds, and then with the years.
func TestKindErrors(t *testing.T) {
	tiny := "1/" + strings.Repeat("9", api.MaxDigits)
	for _, s := range []struct {
		what  string
		kinds []credit.Kind
		e     api.Errno
	}{
		{"nil", nil, api.ErrLimit},
		{"no kinds", []credit.Kind{}, api.ErrLimit},
		{"one too many", alike(api.MaxRows + 1), api.ErrLimit},
		{"far too many, none with a chance", make([]credit.Kind, 100000), api.ErrLimit},
		{"too many, one below 0", append(alike(api.MaxRows), kindsOf(t, "-1 0 -1")...), api.ErrLimit},
		{"a chance below 0", kindsOf(t, "3/2 0 1;-1/2 0 1"), api.ErrArg},
		{"a chance a little below 0", kindsOf(t, "1 0 1;-"+tiny+" 0 1"), api.ErrArg},
		{"a spread below 0", kindsOf(t, "1/2 0 1;1/2 0 -1"), api.ErrArg},
		{"a spread a little below 0", kindsOf(t, "1 0 -"+tiny), api.ErrArg},
		{"a spread below 0 of a kind without a chance", kindsOf(t, "1 0 1;0 0 -1"), api.ErrArg},
		{"a chance below 0, not 1 together", kindsOf(t, "1 0 1;-1/2 0 1"), api.ErrArg},
		{"a spread below 0, not 1 together", kindsOf(t, "1/2 0 -1"), api.ErrArg},
		{"not 1 together, and then a spread below 0", kindsOf(t, "2 0 1;1 0 1;1 0 -1"), api.ErrArg},
		{"noughts", make([]credit.Kind, 2), api.ErrSum},
		{"less than 1", kindsOf(t, "1/2 1 1;1/3 1 1"), api.ErrSum},
		{"a little more than 1", kindsOf(t, "1/2 1 1;1/2 1 1;"+tiny+" 1 1"), api.ErrSum},
	} {
		for _, years := range []int{1, 0, -1, api.MaxYears, api.MaxYears + 1} {
			x, err := credit.Linear(s.kinds, years)
			wantError(t, fmt.Sprint("Linear, ", s.what, ", years ", years), err, s.e, x)
			f, err := credit.Amiss(s.kinds, years, credit.Line{})
			wantError(t, fmt.Sprint("Amiss, ", s.what, ", years ", years), err, s.e, f)
		}
	}
	for _, years := range []int{0, -1, api.MaxYears + 1, leastInt, greatestInt} {
		x, err := credit.Linear(alike(3), years)
		wantError(t, fmt.Sprint("Linear, years ", years), err, api.ErrRange, x)
		f, err := credit.Amiss(alike(3), years, credit.Line{})
		wantError(t, fmt.Sprint("Amiss, years ", years), err, api.ErrRange, f)
	}
}

// 11.2: by hand; and how much that line says amiss.
func TestLinearByHand(t *testing.T) {
	for _, s := range []struct {
		kinds           string
		years           int
		base, own, miss string
	}{
		{"1 7 0", 1, "7", "0", "0"},                 // nothing is spread: of all lines through it the level one
		{"1/2 7 0;1/2 7 0", 5, "7", "0", "0"},       // kinds alike
		{"1/2 7 0;1/2 7 0;0 9 4", 5, "7", "0", "0"}, // one that never is does not count
		{"1 -3 4", 9, "-3", "0", "0"},               // one kind: nothing is to be learnt
		{"1/2 7 1;1/2 7 9", 3, "7", "0", "0"},       // kinds unlike, but not their means
		{"1/2 0 0;1/2 2 0", 1, "0", "1", "0"},       // years of one kind alike: they tell all
		{"1/2 0 1;1/2 2 1", 1, "1/2", "1/2", "1/2"}, // as much from kind to kind as from year to year
		{"1/2 0 1;1/2 2 1", 3, "1/4", "3/4", "1/4"}, // more is known behind three years
		{"1/2 0 0;1/2 2 2", 1, "1/2", "1/2", "1/2"}, // the mean of the spreads counts
		{"1/2 0 1;1/2 2 1", 120, "1/121", "120/121", "1/121"},
		{"3/4 0 0;1/4 4 4", 2, "1/7", "6/7", "3/7"},        // 3 and 1/2
		{"1/3 -1 2;1/3 0 0;1/3 1 1", 3, "0", "2/3", "2/9"}, // 2/3 and 1/3
		{"1/3 -1 2;1/3 0 0;1/3 1 1;0 1/2 5", 3, "0", "2/3", "2/9"},
		{"0 100 100;1 -5/2 1/3", 2, "-5/2", "0", "0"},
	} {
		l := kindsOf(t, s.kinds)
		x, err := credit.Linear(l, s.years)
		what := fmt.Sprint(s.kinds, ", years ", s.years)
		wantLine(t, what, x, err, s.base, s.own)
		f, err := credit.Amiss(l, s.years, x)
		want(t, what, f, err, s.miss)
	}
}

// 11.2: what lines say amiss, by hand.
func TestAmissByHand(t *testing.T) {
	for _, s := range []struct {
		kinds           string
		years           int
		base, own, miss string
	}{
		{"1 7 4", 1, "0", "0", "49"},
		{"1 7 4", 1, "7", "0", "0"},
		{"1 7 4", 1, "0", "1", "4"},
		{"1 7 4", 4, "0", "1", "1"},
		{"1 7 4", 4, "1", "1", "2"},
		{"1 7 4", 4, "-1", "1", "2"},
		{"1 7 4", 4, "0", "2", "53"},
		{"1 7 4", 4, "0", "-1", "197"},
		{"1/2 0 1;1/2 2 1", 1, "1", "0", "1"},
		{"1/2 0 1;1/2 2 1", 1, "0", "0", "2"},
		{"1/2 0 0;1/2 2 2", 2, "0", "1", "1/2"},
		{"0 9 9;1 0 0", 2, "0", "5", "0"},
		{"1/4 0 3;3/4 1 1", 120, "1/2", "1/2", "21/320"},
	} {
		f, err := credit.Amiss(kindsOf(t, s.kinds), s.years, credit.Line{Base: one(t, s.base), Own: one(t, s.own)})
		want(t, fmt.Sprint(s), f, err, s.miss)
	}
}

// amissWays is the mean of the square of what a line says amiss, over all ways in which years may go: each is its kind's mean, and the root of its spread more, or less.
func amissWays(l []credit.Kind, roots []*big.Rat, years int, x credit.Line) *big.Rat {
	sum := new(big.Rat)
	for i, k := range l {
		for way := range 1 << years {
			seen := new(big.Rat)
			for year := range years {
				if way>>year&1 == 0 {
					seen.Add(seen, add(rat(k.Mean), roots[i]))
				} else {
					seen.Add(seen, sub(rat(k.Mean), roots[i]))
				}
			}
			beside := sub(add(rat(x.Base), mul(rat(x.Own), div(seen, years))), rat(k.Mean))
			sum.Add(sum, div(mul(rat(k.Chance), mul(beside, beside)), 1<<years))
		}
	}
	return sum
}

// roots are those of spreads that are squares of fractions.
func roots(t *testing.T, l []credit.Kind) []*big.Rat {
	t.Helper()
	var out []*big.Rat
	for _, k := range l {
		square := rat(k.Spread)
		root := new(big.Rat).SetFrac(new(big.Int).Sqrt(square.Num()), new(big.Int).Sqrt(square.Denom()))
		if mul(root, root).Cmp(square) != 0 {
			t.Fatal(k.Spread.Text(), " is no square")
		}
		out = append(out, root)
	}
	return out
}

// 11.2: Amiss against all ways.
func TestAmissWays(t *testing.T) {
	r := rand.New(rand.NewSource(113))
	for range 200 {
		l := drawnKinds(r, 1+r.Intn(4))
		years := 1 + r.Intn(4)
		x := credit.Line{Base: drawn(r), Own: drawn(r)}
		f, err := credit.Amiss(l, years, x)
		want(t, fmt.Sprint(l, years, x), f, err, amissWays(l, roots(t, l), years, x).RatString())
	}
}

// level tells whether all kinds that have a chance have one mean, and nothing is spread.
func level(l []credit.Kind) bool {
	l = slices.DeleteFunc(slices.Clone(l), func(k credit.Kind) bool { return k.Chance.Sign() == 0 })
	return !slices.ContainsFunc(l, func(k credit.Kind) bool { return k.Spread.Sign() != 0 || k.Mean.Cmp(l[0].Mean) != 0 })
}

// 11.2: no line says less amiss; and none as little, but where nothing is spread: then it is the one with Own 0.
func TestLinearIsTheLeast(t *testing.T) {
	r := rand.New(rand.NewSource(114))
	tiny := one(t, "1/"+strings.Repeat("9", 40))
	var steps []frac.Frac
	for _, text := range []string{"-1", "-1/100", "0", "1/100", "1", "3"} {
		steps = append(steps, one(t, text))
	}
	steps = append(steps, tiny, tiny.Neg())
	levels := 0
	for i := range 200 {
		l, years := drawnKinds(r, 1+r.Intn(5)), 1+r.Intn(api.MaxYears)
		if i%50 == 0 {
			l = drawnKinds(r, api.MaxRows)
		}
		best, err := credit.Linear(l, years)
		least, amiss := credit.Amiss(l, years, best)
		if err != nil || amiss != nil {
			t.Fatal(err, amiss)
		}
		if level(l) {
			levels++
			if best.Own.Sign() != 0 {
				t.Errorf("of %v: Own %s, but nothing is spread", l, best.Own.Text())
			}
		}
		for _, base := range steps {
			for _, own := range steps {
				other := credit.Line{Base: best.Base.Add(base), Own: best.Own.Add(own)}
				f, _ := credit.Amiss(l, years, other)
				same := base.Sign() == 0 && own.Sign() == 0
				if c := f.Cmp(least); c < 0 || c == 0 && !same && !level(l) {
					t.Errorf("%v, years %d: %v says amiss %s, %v says %s", l, years, best, least.Text(), other, f.Text())
				}
			}
		}
	}
	if levels == 0 {
		t.Error("no case with nothing spread")
	}
}

// 11.2: as many kinds as may be, and many digits.
func TestLong(t *testing.T) {
	r := rand.New(rand.NewSource(115))
	l := alike(api.MaxRows)
	for i := range l {
		l[i].Mean, l[i].Spread = longFrac(t, r), longFrac(t, r)
	}
	mean, squares, spread := new(big.Rat), new(big.Rat), new(big.Rat)
	for _, k := range l {
		mean.Add(mean, mul(rat(k.Chance), rat(k.Mean)))
		squares.Add(squares, mul(rat(k.Chance), mul(rat(k.Mean), rat(k.Mean))))
		spread.Add(spread, mul(rat(k.Chance), rat(k.Spread)))
	}
	between, doubt := sub(squares, mul(mean, mean)), div(spread, 7)
	own := new(big.Rat).Quo(between, add(between, doubt))
	x, err := credit.Linear(l, 7)
	wantLine(t, "many digits", x, err, sub(mean, mul(own, mean)).RatString(), own.RatString())
	f, err := credit.Amiss(l, 7, x)
	want(t, "many digits", f, err, mul(own, doubt).RatString())
}

// P4: kinds are not written into, nor what stands behind them.
func TestKindMemory(t *testing.T) {
	back := kindsOf(t, "1/2 0 1;1/2 2 1;5 6 7;8 9 10")
	before := fmt.Sprint(back)
	x, err := credit.Linear(back[:2], 3)
	wantLine(t, "first", x, err, "1/4", "3/4")
	f, err := credit.Amiss(back[:2], 3, x)
	want(t, "first", f, err, "1/4")
	x, err = credit.Linear(back[:2], 3)
	wantLine(t, "again", x, err, "1/4", "3/4")
	if fmt.Sprint(back) != before {
		t.Errorf("%v, and it was %s", back, before)
	}
}
