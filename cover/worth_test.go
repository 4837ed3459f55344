package cover_test

import (
	"fmt"
	"math/big"
	"math/rand"
	"testing"

	"tontine/api"
	"tontine/frac"
)

// 5.2, 5.3: by hand.
func TestByHand(t *testing.T) {
	c := ill(t).made(t)
	for _, s := range []struct {
		year, state                 int
		benefits, premiums, reserve string
	}{
		{3, 0, "50", "0", "50"}, {3, 1, "40", "0", "40"}, {3, 2, "0", "0", "0"},
		{2, 0, "243/4", "1", "215/4"}, {2, 1, "77", "1/3", "224/3"}, {2, 2, "0", "0", "0"},
		{1, 2, "0", "0", "0"},
	} {
		what := fmt.Sprint(s)
		f, err := c.Benefits(s.year, s.state)
		want(t, "Benefits "+what, f, err, s.benefits)
		f, err = c.Premiums(s.year, s.state)
		want(t, "Premiums "+what, f, err, s.premiums)
		f, err = c.Reserve(frac.Whole(7), s.year, s.state)
		want(t, "Reserve "+what, f, err, s.reserve)
	}
	for year, text := range []string{"0", "-59/20", "-6859/600", "-6884/225"} {
		f, err := c.Saved(frac.Whole(7), year)
		want(t, fmt.Sprint("Saved ", year), f, err, text)
	}
}

// 5.2, 5.3: errors.
func TestWorthErrors(t *testing.T) {
	c := ill(t).made(t)
	premium := frac.Whole(7)
	for _, a := range [][2]int{
		{-1, 0}, {4, 0}, {0, -1}, {0, 3}, {3, 3}, {-1, -1}, {4, 3}, {leastInt, 0}, {greatestInt, 0}, {0, leastInt}, {0, greatestInt}, {leastInt, greatestInt},
	} {
		f, err := c.Benefits(a[0], a[1])
		wantError(t, fmt.Sprint("Benefits ", a), err, api.ErrRange, f)
		f, err = c.Premiums(a[0], a[1])
		wantError(t, fmt.Sprint("Premiums ", a), err, api.ErrRange, f)
		f, err = c.Reserve(premium, a[0], a[1])
		wantError(t, fmt.Sprint("Reserve ", a), err, api.ErrRange, f)
	}
	for _, year := range []int{-1, 4, leastInt, greatestInt} {
		f, err := c.Saved(premium, year)
		wantError(t, fmt.Sprint("Saved ", year), err, api.ErrRange, f)
	}
}

// 5.2: Premium.
func TestPremium(t *testing.T) {
	for _, s := range []struct {
		what, stay, move, end, pay string
		start                      int
		premium                    string
	}{
		{"at the beginning", "3 0", "0 0;0 0", "0 0", "2 0", 0, "3/2"},
		{"at the end", "0 0", "0 100;0 0", "0 40", "1 0", 0, "345/7"},
		{"nothing is paid out", "0 0", "0 0;0 0", "0 0", "1 0", 0, "0"},
		{"all is paid out in the other state", "0 0", "0 0;0 0", "40 0", "0 5", 1, "0"},
		{"amounts below 0", "-3 0", "0 0;0 0", "0 0", "2 0", 0, "-3/2"},
		{"premiums below 0", "3 0", "0 0;0 0", "0 0", "-2 0", 0, "-3/2"},
	} {
		p := promised(t, "1/2 1/2;0 1|1/4 3/4;0 1", "1/4 1", s.start, s.stay, s.move, s.end, s.pay)
		f, err := p.made(t).Premium()
		want(t, s.what, f, err, s.premium)
	}
	for _, s := range []struct {
		what, stay, pay string
		start           int
	}{
		{"no premiums", "3 1", "0 0", 0}, {"nothing at all", "0 0", "0 0", 0}, {"none in the state that stays", "3 1", "1 0", 1}, {"in, and out again", "3 1", "1 -5/4", 0},
	} {
		p := promised(t, "0 1;0 1|1 0;0 1", "1/4 1", s.start, s.stay, "0 0;0 0", "0 0", s.pay)
		f, err := p.made(t).Premium()
		wantError(t, s.what, err, api.ErrZero, f)
	}
}

// 5.2, 5.3: against all ways that there are, at each time, in each state.
func TestWorthAgainstAllWays(t *testing.T) {
	r := rand.New(rand.NewSource(51))
	for round := range 60 {
		n, years := 1+r.Intn(4), 1+r.Intn(4)
		if round%20 == 0 {
			n, years = api.MaxStates, 2
		}
		p := drawn(r, n, years)
		c := p.made(t)
		premium := drawnPremium(r)
		for time := range years + 1 {
			what := fmt.Sprint("round ", round, ", time ", time)
			for state := range n {
				out, in := p.toCome(t, time, state)
				f, err := c.Benefits(time, state)
				wantRat(t, "Benefits, "+what, f, err, out)
				f, err = c.Premiums(time, state)
				wantRat(t, "Premiums, "+what, f, err, in)
				f, err = c.Reserve(premium, time, state)
				wantRat(t, "Reserve, "+what, f, err, minus(out, times(rat(t, premium), in)))
			}
			been := mean(p.ways(t, p.start, 0, time, false), func(w way) *big.Rat { return p.loss(t, w, premium) })
			f, err := c.Saved(premium, time)
			wantRat(t, "Saved, "+what, f, err, times(been.Neg(been), p.growth(t, 0, time)))
		}
		wantPremium(t, fmt.Sprint("round ", round), p)
	}
}

// wantPremium fails unless Premium is what all ways tell.
func wantPremium(t *testing.T, what string, p promise) {
	t.Helper()
	f, err := p.made(t).Premium()
	out, in := p.toCome(t, 0, p.start)
	if in.Sign() == 0 {
		wantError(t, what, err, api.ErrZero, f)
		return
	}
	wantRat(t, what, f, err, over(out, in))
}

// DOC.md, 3 (Thiele): with the premium by which both sides are worth the same, what is to come is what has been, at each time, the last one too.
func TestToComeIsWhatHasBeen(t *testing.T) {
	r := rand.New(rand.NewSource(52))
	for round := range 40 {
		n, years := 1+r.Intn(5), 1+r.Intn(9)
		p := drawn(r, n, years)
		p.pay[p.start] = p.pay[p.start].Add(frac.Whole(1000)) // so that it is not 0 together
		c := p.made(t)
		premium, err := c.Premium()
		if err != nil {
			t.Fatal(err)
		}
		for time := range years + 1 {
			var all frac.Frac
			for state := range n {
				chance, _ := p.asked(t).Chain.Prob(p.start, state, 0, time)
				f, err := c.Reserve(premium, time, state)
				if err != nil {
					t.Fatal(err)
				}
				all = all.Add(chance.Mul(f))
			}
			f, err := c.Saved(premium, time)
			want(t, fmt.Sprint("round ", round, ", time ", time), f, err, all.Text())
		}
	}
}

// 5.2 (Thiele): what has to be there is what was ahead, with the year's premium and interest, less what is paid out in the mean; over as many states and years as may be.
func TestYearByYear(t *testing.T) {
	p := drawn(rand.New(rand.NewSource(53)), api.MaxStates, api.MaxYears)
	c := p.made(t)
	premium := one(t, "355/113")
	for _, year := range []int{0, 1, 57, api.MaxYears - 1} {
		for i := range api.MaxStates {
			now, err := c.Reserve(premium, year, i)
			if err != nil {
				t.Fatal(err)
			}
			grown := now.Add(premium.Mul(p.pay[i])).Sub(p.stay[i]).Mul(frac.Whole(1).Add(p.rates[year]))
			for k := range api.MaxStates {
				next, err := c.Reserve(premium, year+1, k)
				if err != nil {
					t.Fatal(err)
				}
				grown = grown.Sub(p.years[year][i][k].Mul(p.move[i][k].Add(next)))
			}
			want(t, fmt.Sprint("year ", year, ", state ", i), grown, nil, "0")
		}
	}
}

// 5.2, 5.3: premiums and amounts of any size.
func TestLongFractions(t *testing.T) {
	r := rand.New(rand.NewSource(54))
	long := func() frac.Frac {
		over, under := frac.Whole(1), frac.Whole(1)
		for range 5 {
			over, under = over.Mul(frac.Whole(1+r.Intn(greatestInt))), under.Mul(frac.Whole(1+r.Intn(greatestInt)))
		}
		f, _ := over.Div(under)
		return f
	}
	p := drawn(r, 3, 4)
	for i := range 3 {
		p.stay[i], p.end[i], p.pay[i] = long(), long(), long()
		p.move[i] = []frac.Frac{long(), long(), long()}
	}
	for i := range p.rates {
		p.rates[i] = long()
	}
	c := p.made(t)
	premium := long()
	out, in := p.toCome(t, 1, 2)
	f, err := c.Reserve(premium, 1, 2)
	wantRat(t, "Reserve", f, err, minus(out, times(rat(t, premium), in)))
	wantPremium(t, "Premium", p)
	wantSpread(t, "Spread", p, premium)
	wantPaths(t, "Paths", p, premium)
}
