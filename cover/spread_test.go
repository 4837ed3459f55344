package cover_test

import (
	"fmt"
	"math/big"
	"math/rand"
	"slices"
	"testing"

	"tontine/api"
	"tontine/frac"
)

// part is a year's part of the variance, word by word as the document has it, over all ways up to the year's end.
func (p promise) part(t *testing.T, year int, premium frac.Frac) *big.Rat {
	t.Helper()
	reserve := func(time, state int) *big.Rat {
		out, in := p.toCome(t, time, state)
		return minus(out, times(rat(t, premium), in))
	}
	unlooked := func(i, k int) *big.Rat {
		end := over(plus(rat(t, p.move[i][k]), reserve(year+1, k)), p.growth(t, year, year+1))
		beginning := plus(minus(reserve(year, i), rat(t, p.stay[i])), times(rat(t, premium), rat(t, p.pay[i])))
		x := over(minus(end, beginning), p.growth(t, 0, year))
		return times(x, x)
	}
	return mean(p.ways(t, p.start, 0, year+1, false), func(w way) *big.Rat { return unlooked(w.states[year], w.states[year+1]) })
}

// wantSpread fails unless Spread is the variance over all ways, and has the parts of all years.
func wantSpread(t *testing.T, what string, p promise, premium frac.Frac) {
	t.Helper()
	variance, parts := p.made(t).Spread(premium)
	l := p.ways(t, p.start, 0, len(p.years), true)
	middle := mean(l, func(w way) *big.Rat { return p.loss(t, w, premium) })
	wantRat(t, what, variance, nil, mean(l, func(w way) *big.Rat {
		x := minus(p.loss(t, w, premium), middle)
		return times(x, x)
	}))
	if len(parts) != len(p.years) {
		t.Fatalf("%s: %d parts of %d years", what, len(parts), len(p.years))
	}
	for year, f := range parts {
		wantRat(t, fmt.Sprint(what, ", year ", year), f, nil, p.part(t, year, premium))
	}
}

// 5.4: by hand.
func TestSpreadByHand(t *testing.T) {
	for _, s := range []struct {
		what            string
		p               promise
		premium         string
		variance, parts string
	}{
		{"a penny is tossed", promised(t, "1/2 1/2;0 1", "1", 0, "0 0", "0 10;0 0", "0 0", "1 0"), "3", "25/4", "25/4"},
		{"at the end", promised(t, "1/2 1/2;0 1", "1", 0, "0 0", "0 0;0 0", "0 10", "1 0"), "3", "25/4", "25/4"},
		{"premiums alone", promised(t, "1/2 1/2;0 1|1 0;0 1", "1 0", 0, "0 0", "0 0;0 0", "0 0", "1 0"), "6", "9/4", "9/4 0"},
		{"the other way", promised(t, "1/2 1/2;0 1|1 0;0 1", "1 0", 0, "0 0", "0 0;0 0", "0 0", "1 0"), "-6", "9/4", "9/4 0"},
		{"no premiums", promised(t, "1/2 1/2;0 1|1 0;0 1", "1 0", 0, "0 0", "0 0;0 0", "0 0", "1 0"), "0", "0", "0 0"},
		{"two years", promised(t, "1/2 1/2;0 1|1/2 1/2;0 1", "0 0", 0, "0 0", "0 8;0 0", "0 0", "1 0"), "2", "17", "9 8"},
		{"for certain", promised(t, "0 1;1 0|0 1;1 0", "5% 5%", 0, "1 2", "3 4;5 6", "7 8", "9 10"), "11", "0", "0 0"},
		{"one state", promised(t, "1", "5%", 0, "1", "3", "7", "9"), "11", "0", "0"},
	} {
		variance, parts := s.p.made(t).Spread(one(t, s.premium))
		want(t, s.what, variance, nil, s.variance)
		if frac.Words(parts) != s.parts {
			t.Errorf("%s: parts %s, not %s", s.what, frac.Words(parts), s.parts)
		}
	}
}

// 5.4: against all ways that there are, and the document's words.
func TestSpreadAgainstAllWays(t *testing.T) {
	r := rand.New(rand.NewSource(55))
	for round := range 25 {
		p := drawn(r, 1+r.Intn(4), 1+r.Intn(4))
		wantSpread(t, fmt.Sprint("round ", round), p, drawnPremium(r))
	}
}

// DOC.md, 3 (Hattendorff): the parts of all years are the variance; over as many years as may be. The variance is held against one that is reckoned backwards.
func TestPartsAreTheVariance(t *testing.T) {
	r := rand.New(rand.NewSource(56))
	for _, n := range []int{2, 3, api.MaxStates} {
		years := api.MaxYears
		if n == api.MaxStates {
			years = 12
		}
		p := drawn(r, n, years)
		premium := drawnPremium(r)
		variance, parts := p.made(t).Spread(premium)
		var all frac.Frac
		for _, f := range parts {
			all = all.Add(f)
			if f.Sign() < 0 {
				t.Error("a part is below 0")
			}
		}
		want(t, fmt.Sprint(n, " states"), all, nil, variance.Text())
		wantRat(t, fmt.Sprint(n, " states, backwards"), variance, nil, p.variance(t, premium))
	}
}

// variance is that of the loss, by the mean of the loss and that of its square in each state, from the last year on.
func (p promise) variance(t *testing.T, premium frac.Frac) *big.Rat {
	t.Helper()
	n := len(p.stay)
	means, squares := make([]*big.Rat, n), make([]*big.Rat, n)
	for k := range n {
		means[k] = rat(t, p.end[k])
		squares[k] = times(means[k], means[k])
	}
	for year, m := range slices.Backward(p.years) {
		v := over(big.NewRat(1, 1), p.growth(t, year, year+1))
		means2, squares2 := make([]*big.Rat, n), make([]*big.Rat, n)
		for i := range n {
			now := minus(rat(t, p.stay[i]), times(rat(t, premium), rat(t, p.pay[i])))
			means2[i], squares2[i] = new(big.Rat), new(big.Rat)
			for k, chance := range m[i] {
				fixed := plus(now, times(v, rat(t, p.move[i][k]))) // (fixed + v L)^2
				square := plus(times(fixed, fixed), plus(times(big.NewRat(2, 1), times(fixed, times(v, means[k]))), times(times(v, v), squares[k])))
				means2[i].Add(means2[i], times(rat(t, chance), plus(fixed, times(v, means[k]))))
				squares2[i].Add(squares2[i], times(rat(t, chance), square))
			}
		}
		means, squares = means2, squares2
	}
	return minus(squares[p.start], times(means[p.start], means[p.start]))
}

// P4: the parts are the caller's.
func TestSpreadIsTheCallers(t *testing.T) {
	c := ill(t).made(t)
	variance, parts := c.Spread(frac.Whole(7))
	text := variance.Text() + ": " + frac.Words(parts)
	for i := range parts {
		parts[i] = frac.Whole(-1)
	}
	variance, parts = c.Spread(frac.Whole(7))
	if again := variance.Text() + ": " + frac.Words(parts); again != text {
		t.Errorf("%s, not %s", again, text)
	}
}
