package chain_test

import (
	"fmt"
	"math/big"
	"math/rand"
	"testing"

	"tontine/api"
	"tontine/chain"
	"tontine/frac"
)

// ill is a chain of three states: well, ill, dead.
const ill = "4/5 1/10 1/10;1/2 1/4 1/4;0 0 1|3/4 1/8 1/8;1/3 1/3 1/3;0 0 1|1/2 1/4 1/4;0 1/2 1/2;0 0 1"

// 3.3: by hand.
func TestWellIllDead(t *testing.T) {
	c := made(t, matrices(t, ill))
	for _, s := range []struct {
		start    string
		from, to int
		text     string
	}{
		{"1 0 0", 0, 0, "1 0 0"}, {"1 0 0", 0, 1, "4/5 1/10 1/10"}, {"1 0 0", 0, 2, "19/30 2/15 7/30"}, {"1 0 0", 0, 3, "19/60 9/40 11/24"},
		{"0 1 0", 1, 2, "1/3 1/3 1/3"}, {"0 0 1", 0, 3, "0 0 1"}, {"1/2 1/2 0", 0, 1, "13/20 7/40 7/40"}, {"1/2 1/3 1/6", 3, 3, "1/2 1/3 1/6"}, {"2/4 2/6 1/6", 2, 2, "1/2 1/3 1/6"},
	} {
		l, err := c.Spread(fracs(t, s.start), s.from, s.to)
		wantRow(t, fmt.Sprint(s), l, err, s.text)
	}
	for _, s := range []struct {
		i, k, from, to     int
		prob, visits, hits string
	}{
		{0, 0, 0, 3, "19/60", "73/30", "1"},
		{0, 1, 0, 3, "9/40", "7/30", "7/20"},
		{0, 2, 0, 3, "11/24", "1/3", "11/24"},
		{1, 0, 0, 2, "11/24", "1/2", "7/12"},
		{2, 0, 0, 3, "0", "0", "0"},
		{2, 2, 0, 3, "1", "3", "1"},
		{0, 0, 1, 1, "1", "0", "1"},
		{0, 1, 1, 1, "0", "0", "0"},
		{0, 1, 3, 3, "0", "0", "0"},
		{0, 1, 2, 3, "1/4", "0", "1/4"},
		{1, 1, 2, 3, "1/2", "1", "1"},
	} {
		what := fmt.Sprint(s)
		f, err := c.Prob(s.i, s.k, s.from, s.to)
		want(t, "Prob "+what, f, err, s.prob)
		f, err = c.Visits(s.i, s.k, s.from, s.to)
		want(t, "Visits "+what, f, err, s.visits)
		f, err = c.Hits(s.i, s.k, s.from, s.to)
		want(t, "Hits "+what, f, err, s.hits)
	}
}

// 3.3: Spread's errors, in their order.
func TestSpreadErrors(t *testing.T) {
	c := made(t, matrices(t, ill))
	for _, s := range []struct {
		start    string
		from, to int
		want     api.Errno
	}{
		{"1 0 0", -1, 0, api.ErrRange}, {"1 0 0", 0, 4, api.ErrRange}, {"1 0 0", 2, 1, api.ErrRange}, {"1 0 0", 4, 4, api.ErrRange}, {"1 0 0", -1, -1, api.ErrRange},
		{"1 0 0", leastInt, greatestInt, api.ErrRange}, {"1 0 0", greatestInt, leastInt, api.ErrRange}, {"1 0 0", 0, leastInt, api.ErrRange}, {"1 0 0", greatestInt, greatestInt, api.ErrRange},
		{"1", -1, 0, api.ErrRange}, {"-1 2 0", 0, 4, api.ErrRange}, {"1 1 1", 2, 1, api.ErrRange},
		{"", 0, 1, api.ErrForm}, {"1 0", 0, 1, api.ErrForm}, {"1 0 0 0", 0, 1, api.ErrForm}, {"-1 2", 0, 0, api.ErrForm}, {"2", 3, 3, api.ErrForm},
		{"-1 2 0", 0, 1, api.ErrArg}, {"1 1/2 -1/2", 0, 0, api.ErrArg}, {"1 1 -1/2", 0, 0, api.ErrArg}, {"-1 0 0", 0, 3, api.ErrArg},
		{"0 0 0", 0, 1, api.ErrSum}, {"1/2 1/3 0", 0, 0, api.ErrSum}, {"1 1 0", 3, 3, api.ErrSum}, {"1/2 1/3 1/5", 0, 3, api.ErrSum},
	} {
		l, err := c.Spread(fracs(t, s.start), s.from, s.to)
		wantError(t, fmt.Sprint(s), err, s.want, l)
	}
}

// 3.3: the errors of Prob, Visits and Hits.
func TestProbErrors(t *testing.T) {
	c := made(t, matrices(t, ill))
	for _, a := range [][4]int{
		{-1, 0, 0, 1}, {3, 0, 0, 1}, {0, -1, 0, 1}, {0, 3, 0, 1}, {leastInt, 0, 0, 1}, {greatestInt, 0, 0, 1}, {0, leastInt, 0, 1}, {0, greatestInt, 0, 1},
		{0, 0, -1, 1}, {0, 0, 0, 4}, {0, 0, 2, 1}, {0, 0, 4, 4}, {0, 0, leastInt, 0}, {0, 0, 0, greatestInt}, {0, 0, greatestInt, leastInt}, {3, 3, 3, 2},
	} {
		f, err := c.Prob(a[0], a[1], a[2], a[3])
		wantError(t, fmt.Sprint("Prob ", a), err, api.ErrRange, f)
		f, err = c.Visits(a[0], a[1], a[2], a[3])
		wantError(t, fmt.Sprint("Visits ", a), err, api.ErrRange, f)
		f, err = c.Hits(a[0], a[1], a[2], a[3])
		wantError(t, fmt.Sprint("Hits ", a), err, api.ErrRange, f)
	}
}

// walked goes through all ways from a state over some years, and tells of a state how likely the last one is it, how often it is one but the last, in the mean, and how likely it is one at all.
func walked(t *testing.T, years []chain.Matrix, i, k int) (prob, visits, hits *big.Rat) {
	t.Helper()
	prob, visits, hits = new(big.Rat), new(big.Rat), new(big.Rat)
	var walk func(at int, chance *big.Rat, year, seen int)
	walk = func(at int, chance *big.Rat, year, seen int) {
		if year == len(years) {
			visits.Add(visits, new(big.Rat).Mul(chance, big.NewRat(int64(seen), 1)))
			if at == k {
				prob.Add(prob, chance)
			}
			if at == k || seen > 0 {
				hits.Add(hits, chance)
			}
			return
		}
		if at == k {
			seen++
		}
		for next, f := range years[year][at] {
			if f.Sign() > 0 {
				walk(next, new(big.Rat).Mul(chance, rat(t, f)), year+1, seen)
			}
		}
	}
	walk(i, big.NewRat(1, 1), 0, 0)
	return prob, visits, hits
}

// 3.3: Prob, Visits and Hits, against all ways that there are.
func TestAgainstAllWays(t *testing.T) {
	r := rand.New(rand.NewSource(1))
	for round := range 60 {
		n, years := 1+r.Intn(4), 1+r.Intn(5)
		if round%20 == 0 {
			n, years = api.MaxStates, 3
		}
		l := drawnYears(r, n, years)
		c := made(t, l)
		from := r.Intn(years + 1)
		to := from + r.Intn(years-from+1)
		for i := range n {
			for k := range n {
				what := fmt.Sprint("round ", round, ": ", i, " ", k, " ", from, " ", to)
				prob, visits, hits := walked(t, l[from:to], i, k)
				f, err := c.Prob(i, k, from, to)
				want(t, "Prob, "+what, f, err, prob.RatString())
				f, err = c.Visits(i, k, from, to)
				want(t, "Visits, "+what, f, err, visits.RatString())
				f, err = c.Hits(i, k, from, to)
				want(t, "Hits, "+what, f, err, hits.RatString())
			}
		}
	}
}

// DOC.md, 2: over a time between one comes where one comes at once (Chapman, Kolmogorov).
func TestOverATimeBetween(t *testing.T) {
	r := rand.New(rand.NewSource(2))
	for round := range 30 {
		n, years := 1+r.Intn(api.MaxStates), 1+r.Intn(12)
		c := made(t, drawnYears(r, n, years))
		start := drawnRow(r, n)
		atOnce, err := c.Spread(start, 0, years)
		if err != nil {
			t.Fatal(err)
		}
		for between := range years + 1 {
			half, err := c.Spread(start, 0, between)
			if err != nil {
				t.Fatal(err)
			}
			over, err := c.Spread(half, between, years)
			wantRow(t, fmt.Sprint("round ", round, " over ", between), over, err, frac.Words(atOnce))
			i, k := r.Intn(n), r.Intn(n)
			var sum frac.Frac
			for j := range n {
				a, _ := c.Prob(i, j, 0, between)
				b, _ := c.Prob(j, k, between, years)
				sum = sum.Add(a.Mul(b))
			}
			f, err := c.Prob(i, k, 0, years)
			want(t, fmt.Sprint("round ", round, " over ", between), f, err, sum.Text())
		}
	}
}

// 3.3: Spread is the mean of what comes of each state alone; it is one together; Visits is the sum of Prob.
func TestSpreadIsTheMean(t *testing.T) {
	r := rand.New(rand.NewSource(3))
	for round := range 30 {
		n, years := 1+r.Intn(5), 1+r.Intn(8)
		c := made(t, drawnYears(r, n, years))
		start := drawnRow(r, n)
		l, err := c.Spread(start, 0, years)
		if err != nil {
			t.Fatal(err)
		}
		var all frac.Frac
		for k := range n {
			var mean, visits frac.Frac
			for i := range n {
				f, _ := c.Prob(i, k, 0, years)
				mean = mean.Add(start[i].Mul(f))
			}
			for y := range years {
				f, _ := c.Prob(0, k, 0, y)
				visits = visits.Add(f)
			}
			want(t, fmt.Sprint("Spread, round ", round), l[k], nil, mean.Text())
			f, err := c.Visits(0, k, 0, years)
			want(t, fmt.Sprint("Visits, round ", round), f, err, visits.Text())
			all = all.Add(l[k])
		}
		want(t, "together", all, nil, "1")
	}
}

// P4: the start is neither written into nor handed out, and asking changes nothing.
func TestSpreadKeepsNothing(t *testing.T) {
	c := made(t, matrices(t, ill))
	room := fracs(t, "1/2 1/4 1/4 9")
	start := room[:3]
	same, err := c.Spread(start, 1, 1)
	wantRow(t, "Spread over no year", same, err, "1/2 1/4 1/4")
	same[0] = frac.Whole(5)
	if frac.Words(room) != "1/2 1/4 1/4 9" {
		t.Errorf("the start became %s", frac.Words(room))
	}
	first, err := c.Spread(start, 0, 3)
	if err != nil {
		t.Fatal(err)
	}
	text := frac.Words(first)
	for k := range first {
		first[k] = frac.Whole(8)
	}
	again, err := c.Spread(start, 0, 3)
	wantRow(t, "asked again", again, err, text)
	if frac.Words(room) != "1/2 1/4 1/4 9" {
		t.Errorf("the start became %s", frac.Words(room))
	}
}

// leftover is what a fraction leaves when divided by a prime, in whole numbers that wrap round there.
func leftover(t *testing.T, f frac.Frac, prime *big.Int) *big.Int {
	t.Helper()
	r := rat(t, f)
	under := new(big.Int).ModInverse(r.Denom(), prime)
	if under == nil {
		t.Fatal("the prime divides a lower number")
	}
	under.Mul(under, r.Num())
	return under.Mod(under, prime)
}

// 3.3: as many states and years as may be, with long fractions that have nothing in common. What comes out is as long as a book: it is held against the same reckoning by what a prime leaves.
func TestLongFractions(t *testing.T) {
	prime, _ := new(big.Int).SetString("170141183460469231731687303715884105727", 10)
	r := rand.New(rand.NewSource(4))
	var l []chain.Matrix
	for range api.MaxYears {
		m := make(chain.Matrix, api.MaxStates)
		for i := range m {
			m[i] = unit(api.MaxStates)[i]
			if r.Intn(4) == 0 {
				m[i] = longRow(r, api.MaxStates, 18)
			}
		}
		l = append(l, m)
	}
	c := made(t, l)
	start := longRow(r, api.MaxStates, 70)
	got, err := c.Spread(start, 0, api.MaxYears)
	if err != nil {
		t.Fatal(err)
	}
	now := make([]*big.Int, len(start))
	for i, f := range start {
		now[i] = leftover(t, f, prime)
	}
	for _, m := range l {
		next := make([]*big.Int, len(now))
		for k := range next {
			next[k] = new(big.Int)
			for i := range now {
				next[k].Add(next[k], new(big.Int).Mul(now[i], leftover(t, m[i][k], prime)))
			}
			next[k].Mod(next[k], prime)
		}
		now = next
	}
	for k, f := range got {
		if leftover(t, f, prime).Cmp(now[k]) != 0 {
			t.Errorf("state %d: something else comes out", k)
		}
		if f.Sign() <= 0 {
			t.Errorf("state %d: not above 0", k)
		}
	}
}
