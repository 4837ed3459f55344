package claims_test

import (
	"fmt"
	"math/big"
	"math/rand"
	"slices"
	"strings"
	"testing"

	"tontine/api"
	"tontine/claims"
	"tontine/frac"
)

// DOC.md, example 7.
func TestExample(t *testing.T) {
	l, err := claims.Times(law(t, "1/2 1/2"), 3)
	wantRow(t, "Times", l, err, "1/8 3/8 3/8 1/8")
	policies := []claims.Policy{{one(t, "1/4"), 2}, {one(t, "1/3"), 3}, {one(t, "1/5"), 2}}
	for what, call := range bothWays() {
		chances, err := call(policies, 7)
		wantRow(t, what, chances, err, "2/5 0 7/30 1/5 1/30 7/60 0 1/60")
	}
}

// asked is a call with a law at one of its places, and nothing amiss but what that is.
type asked struct {
	what string
	call func(l claims.Law) (any, error)
}

// calls are all that take laws.
func calls(t *testing.T) []asked {
	half, some := one(t, "1/2"), law(t, "1/2 1/2")
	tries := claims.Number{Kind: claims.Tries, N: 2, P: half}
	failures := claims.Number{Kind: claims.Failures, N: 2, P: half}
	return []asked{
		{"Check", func(l claims.Law) (any, error) { return 0, claims.Check(l) }},
		{"Mean", func(l claims.Law) (any, error) { return claims.Mean(l) }},
		{"Variance", func(l claims.Law) (any, error) { return claims.Variance(l) }},
		{"Quantile", func(l claims.Law) (any, error) { return claims.Quantile(l, half) }},
		{"Worst", func(l claims.Law) (any, error) { return claims.Worst(l, half) }},
		{"Sum, first", func(l claims.Law) (any, error) { return claims.Sum(l, sure(0, 0)) }},
		{"Sum, second", func(l claims.Law) (any, error) { return claims.Sum(sure(0, 0), l) }},
		{"Times", func(l claims.Law) (any, error) { return claims.Times(l, 1) }},
		{"Compound, number", func(l claims.Law) (any, error) { return claims.Compound(l, some) }},
		{"Compound, size", func(l claims.Law) (any, error) { return claims.Compound(some, l) }},
		{"Panjer, Tries", func(l claims.Law) (any, error) { return claims.Panjer(tries, l, 3) }},
		{"Panjer, Failures", func(l claims.Law) (any, error) { return claims.Panjer(failures, l, 3) }},
		{"Stop", func(l claims.Law) (any, error) { return claims.Stop(l, 1) }},
		{"Layer", func(l claims.Law) (any, error) { return claims.Layer(l, 1, 1) }},
	}
}

// 7.1: which laws may be; all calls say it.
func TestLaws(t *testing.T) {
	many := sure(api.MaxSize, 1)
	bad := make(claims.Law, api.MaxSize+2)
	bad[3] = frac.Whole(-1)
	tiny := "1/" + strings.Repeat("9", api.MaxDigits)
	above := law(t, "1/2 1/2 "+tiny)
	below := law(t, "1/2 1/2")
	below[1] = below[1].Sub(one(t, tiny))
	for _, c := range calls(t) {
		for _, s := range []struct {
			what string
			l    claims.Law
			e    api.Errno
		}{
			{"nil", nil, api.ErrLimit},
			{"no numbers", claims.Law{}, api.ErrLimit},
			{"a number too many, which is a nought", many, api.ErrLimit},
			{"a number too many, not 1 together, one below 0", bad, api.ErrLimit},
			{"far too many", make(claims.Law, 100000), api.ErrLimit},
			{"below 0", law(t, "-1/2 3/2"), api.ErrArg},
			{"below 0 at last", law(t, "1 1/2 -1/2"), api.ErrArg},
			{"below 0, not 1 together", law(t, "1 1 -1/2"), api.ErrArg},
			{"below 0, behind more than 1", law(t, "2 -1/1000000000000000000000000"), api.ErrArg},
			{"nought", law(t, "0"), api.ErrSum},
			{"noughts", law(t, "0 0 0"), api.ErrSum},
			{"above 1", law(t, "2"), api.ErrSum},
			{"less than 1 together", law(t, "1/2 1/3"), api.ErrSum},
			{"more than 1 together", law(t, "1/2 1/3 1/4"), api.ErrSum},
			{"a little more than 1", above, api.ErrSum},
			{"a little less than 1", below, api.ErrSum},
		} {
			x, err := c.call(s.l)
			wantError(t, c.what+", "+s.what, err, s.e, x)
		}
		for _, good := range []claims.Law{sure(0, 0), sure(0, api.MaxSize), sure(api.MaxSize, 0), even(api.MaxSize), law(t, "1/2 1/3 1/6"), law(t, "0 1")} {
			if _, err := c.call(good); err != nil {
				t.Errorf("%s of %s: %v", c.what, frac.Words(good), err)
			}
		}
	}
}

// 7.1: what is wrong with a law is said ahead of all else; of two laws first what is wrong with the first.
func TestLawsFirst(t *testing.T) {
	bad, worse, good := law(t, "1/2"), law(t, "-1"), law(t, "1/2 1/2")
	far := frac.Whole(7)
	n, err := claims.Quantile(bad, far)
	wantError(t, "Quantile", err, api.ErrSum, n)
	f, err := claims.Worst(bad, far)
	wantError(t, "Worst", err, api.ErrSum, f)
	l, err := claims.Times(bad, -1)
	wantError(t, "Times", err, api.ErrSum, l)
	f, err = claims.Stop(bad, -1)
	wantError(t, "Stop", err, api.ErrSum, f)
	l, err = claims.Layer(bad, -1, -1)
	wantError(t, "Layer", err, api.ErrSum, l)
	for what, call := range map[string]func(a, b claims.Law) (claims.Law, error){"Sum": claims.Sum, "Compound": claims.Compound} {
		for _, s := range []struct {
			a, b claims.Law
			e    api.Errno
		}{
			{bad, worse, api.ErrSum}, {worse, bad, api.ErrArg}, {bad, nil, api.ErrSum}, {nil, bad, api.ErrLimit}, {good, bad, api.ErrSum},
			{worse, good, api.ErrArg}, {sure(150, 0), append(sure(150, 0), frac.Whole(-1)), api.ErrArg}, {sure(150, 0), sure(150, 0), api.ErrLimit},
		} {
			l, err := call(s.a, s.b)
			wantError(t, what+" of "+frac.Words(s.a)+" and "+frac.Words(s.b), err, s.e, l)
		}
	}
}

// 7.2: by hand.
func TestByHand(t *testing.T) {
	for _, s := range []struct{ l, mean, variance string }{
		{"1", "0", "0"}, {"1 0 0", "0", "0"}, {"0 0 1", "2", "0"}, {"1/2 1/2", "1/2", "1/4"}, {"1/4 0 1/2 1/4", "7/4", "19/16"}, {"2/3 0 0 1/3 0", "1", "2"},
	} {
		f, err := claims.Mean(law(t, s.l))
		want(t, "Mean of "+s.l, f, err, s.mean)
		f, err = claims.Variance(law(t, s.l))
		want(t, "Variance of "+s.l, f, err, s.variance)
	}
	l := law(t, "1/4 0 1/2 1/4 0")
	for _, s := range []struct {
		chance string
		n      int
	}{{"1/1000000", 0}, {"1/4", 0}, {"250001/1000000", 2}, {"1/2", 2}, {"3/4", 2}, {"750001/1000000", 3}, {"1", 3}} {
		n, err := claims.Quantile(l, one(t, s.chance))
		if n != s.n || err != nil {
			t.Errorf("Quantile for %s: %d, %v, not %d", s.chance, n, err, s.n)
		}
	}
	for _, s := range []struct{ chance, text string }{{"0", "7/4"}, {"1/8", "2"}, {"1/4", "7/3"}, {"1/2", "5/2"}, {"5/8", "8/3"}, {"3/4", "3"}, {"7/8", "3"}, {"999999/1000000", "3"}} {
		f, err := claims.Worst(l, one(t, s.chance))
		want(t, "Worst beyond "+s.chance, f, err, s.text)
	}
	n, err := claims.Quantile(sure(0, 3), frac.Whole(1))
	if n != 0 || err != nil {
		t.Errorf("Quantile of what is always 0: %d, %v", n, err)
	}
}

// 7.2: which chances may be.
func TestChanceErrors(t *testing.T) {
	l := law(t, "1/2 1/2")
	for _, s := range []struct {
		chance          string
		quantile, worst bool
	}{
		{"0", false, true}, {"1", true, false}, {"-1", false, false}, {"2", false, false}, {"1/2", true, true},
		{"-1/" + strings.Repeat("9", api.MaxDigits), false, false},
		{"1" + strings.Repeat("0", api.MaxDigits-1) + "/" + strings.Repeat("9", api.MaxDigits-1), false, false},
		{"1/" + strings.Repeat("9", api.MaxDigits), true, true},
		{strings.Repeat("9", api.MaxDigits-1) + "/1" + strings.Repeat("0", api.MaxDigits-1), true, true},
	} {
		n, err := claims.Quantile(l, one(t, s.chance))
		if s.quantile && err != nil {
			t.Errorf("Quantile for %s: %v", s.chance, err)
		} else if !s.quantile {
			wantError(t, "Quantile for "+s.chance, err, api.ErrRange, n)
		}
		f, err := claims.Worst(l, one(t, s.chance))
		if s.worst && err != nil {
			t.Errorf("Worst beyond %s: %v", s.chance, err)
		} else if !s.worst {
			wantError(t, "Worst beyond "+s.chance, err, api.ErrRange, f)
		}
	}
}

// meanOf is the mean of a number of each atom, as the library reckons it.
func meanOf(atoms []int, of func(amount int) *big.Rat) *big.Rat {
	sum := new(big.Rat)
	for _, amount := range atoms {
		sum.Add(sum, of(amount))
	}
	return sum.Quo(sum, big.NewRat(int64(len(atoms)), 1))
}

// asIs is an amount as the library has it.
func asIs(amount int) *big.Rat { return big.NewRat(int64(amount), 1) }

// 7.2: against amounts that are all as likely: of these, the worst part is the last ones.
func TestAtoms(t *testing.T) {
	r := rand.New(rand.NewSource(7))
	for range 300 {
		atoms := drawnAtoms(r, 1+r.Intn(9))
		l := lawOf(atoms, r.Intn(3))
		what := fmt.Sprint(" of ", atoms)
		f, err := claims.Mean(l)
		mean := meanOf(atoms, asIs)
		want(t, "Mean"+what, f, err, mean.RatString())
		f, err = claims.Variance(l)
		want(t, "Variance"+what, f, err, meanOf(atoms, func(amount int) *big.Rat {
			beside := new(big.Rat).Sub(asIs(amount), mean)
			return beside.Mul(beside, beside)
		}).RatString())
		for n := range len(atoms) {
			chance, _ := frac.Of(n, len(atoms))
			f, err = claims.Worst(l, chance)
			want(t, fmt.Sprint("Worst", what, " beyond ", chance.Text()), f, err, meanOf(atoms[n:], asIs).RatString())
			beyond, _ := frac.Of(2*n+1, 2*len(atoms))
			twice := slices.Sorted(slices.Values(append(slices.Clone(atoms), atoms...)))
			f, err = claims.Worst(l, beyond)
			want(t, fmt.Sprint("Worst", what, " beyond ", beyond.Text()), f, err, meanOf(twice[2*n+1:], asIs).RatString())
			chance, _ = frac.Of(n+1, len(atoms))
			for _, c := range []frac.Frac{beyond, chance} {
				x, err := claims.Quantile(l, c)
				if x != atoms[n] || err != nil {
					t.Errorf("Quantile%s for %s: %d, %v, not %d", what, c.Text(), x, err, atoms[n])
				}
			}
		}
	}
}

// 7.1, 7.2: numbers of many digits.
func TestLong(t *testing.T) {
	l := longLaw(t, rand.New(rand.NewSource(71)), 20)
	mean, square := new(big.Rat), new(big.Rat)
	for amount, f := range l {
		x := new(big.Rat).Mul(rat(f), asIs(amount))
		mean.Add(mean, x)
		square.Add(square, new(big.Rat).Mul(x, asIs(amount)))
	}
	f, err := claims.Mean(l)
	want(t, "Mean", f, err, mean.RatString())
	f, err = claims.Variance(l)
	want(t, "Variance", f, err, square.Sub(square, new(big.Rat).Mul(mean, mean)).RatString())
	n, err := claims.Quantile(l, l[0].Add(l[1]))
	if n != 1 || err != nil {
		t.Errorf("Quantile: %d, %v", n, err)
	}
	n, err = claims.Quantile(l, l[0].Add(l[1]).Add(one(t, "1/"+strings.Repeat("9", api.MaxDigits))))
	if n != 2 || err != nil {
		t.Errorf("Quantile, a little more: %d, %v", n, err)
	}
	f, err = claims.Worst(l, frac.Whole(1).Sub(l[19]))
	want(t, "Worst", f, err, "19")
	f, err = claims.Worst(l, frac.Frac{})
	want(t, "Worst of all", f, err, mean.RatString())
}

// P4: what is handed in stays as it is, what stands behind it too, and what comes out is the caller's.
func TestMemory(t *testing.T) {
	all := law(t, "1/2 1/3 1/6 0 7 8 9 10 11 12 13")
	before := frac.Words(all)
	policies := []claims.Policy{{one(t, "1/4"), 2}, {one(t, "1/3"), 3}, {one(t, "1/5"), 0}, {one(t, "9"), 9}}
	told := func() string {
		text := ""
		tell := func(l []frac.Frac) {
			text += frac.Words(l) + ";"
			l = l[:cap(l)]
			for i := range l {
				l[i] = frac.Whole(99)
			}
		}
		for _, c := range calls(t) {
			x, err := c.call(all[:4])
			switch y := x.(type) {
			case claims.Law:
				tell(y)
			case []frac.Frac:
				tell(y)
			case frac.Frac:
				text += y.Text() + ";"
			}
			if err != nil {
				t.Errorf("%s: %v", c.what, err)
			}
		}
		for _, call := range []func([]claims.Policy, int) ([]frac.Frac, error){claims.Single, claims.Pril} {
			l, _ := call(policies[:3], 6)
			tell(l)
		}
		for _, kind := range []int{claims.Tries, claims.Failures} {
			l, _ := claims.Chances(claims.Number{Kind: kind, N: 2, P: one(t, "1/3")}, 3)
			tell(l)
		}
		return text
	}
	first := told()
	if again := told(); again != first {
		t.Errorf("%s, then %s", first, again)
	}
	if frac.Words(all) != before {
		t.Errorf("%s became %s", before, frac.Words(all))
	}
	if len(policies) != 4 || policies[3].Amount != 9 || policies[0].Chance.Text() != "1/4" || policies[2].Amount != 0 {
		t.Errorf("the policies became %v", policies)
	}
}
