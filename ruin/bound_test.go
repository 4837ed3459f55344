package ruin_test

import (
	"fmt"
	"math/big"
	"math/rand"
	"strings"
	"testing"

	"tontine/api"
	"tontine/claims"
	"tontine/frac"
	"tontine/ruin"
)

// 10.2: which r and which bits may be; said behind all else.
func TestBoundErrors(t *testing.T) {
	l := law(t, "2/3 0 1/3")
	tiny := one(t, "1/"+strings.Repeat("9", api.MaxDigits))
	for _, r := range []frac.Frac{{}, frac.Whole(-1), frac.Whole(-2), one(t, "1/2"), one(t, "-3/2"), frac.Whole(1).Sub(tiny), frac.Whole(leastInt)} {
		ok, err := ruin.Safe(1, l, r)
		wantError(t, "Safe with "+r.Text(), err, api.ErrRange, ok)
		ok, err = ruin.Safe(1, sure(0, 41), r)
		wantError(t, "Safe of a long law with "+r.Text(), err, api.ErrLimit, ok)
	}
	for _, bits := range []int{-1, 13, 63, 64, leastInt, greatestInt} {
		f, err := ruin.Best(1, l, bits)
		wantError(t, fmt.Sprint("Best, bits ", bits), err, api.ErrRange, f)
		f, err = ruin.Best(1, sure(0, 41), bits)
		wantError(t, fmt.Sprint("Best of a long law, bits ", bits), err, api.ErrLimit, f)
	}
}

// 10.2: by hand, where it is known with which r the mean is just 1.
func TestBoundByHand(t *testing.T) {
	tiny := one(t, "1/"+strings.Repeat("9", api.MaxDigits))
	for _, s := range []struct {
		income int
		l, r   string
	}{
		{1, "2/3 0 1/3", "2"},
		{1, "2/3 0 1/3 0 0", "2"},
		{1, "3/5 0 2/5", "3/2"},
		{1, "64/65 0 1/65", "64"},
		{1, "4097/8193 0 4096/8193", "4097/4096"},
		{2, "2/3 0 0 0 1/3", ""}, // the square of r is 2: no fraction
		{1, "1/2 0 1/2", "1"},
		{0, "1/2 1/2", "1"},
		{1, "1/3 1/3 1/3", "1"},
		{1, "0 0 1", "1"},
		{20, "2/3 0 1/3", "far"},
		{0, "1", "far"},
		{1, "0 1", "far"},
		{1, "1/2 1/2", "far"},
		{1, "65/66 0 1/66", "far"},
	} {
		l := law(t, s.l)
		for bits := range 13 {
			unit := 1 << bits
			f, err := ruin.Best(s.income, l, bits)
			what := fmt.Sprint("Best of ", s.l, ", income ", s.income, ", bits ", bits)
			switch s.r {
			case "far":
				want(t, what, f, err, "64")
			case "":
				n := 0
				for n*n <= 2*unit*unit {
					n++
				}
				root, _ := frac.Of(n-1, unit)
				want(t, what, f, err, root.Text())
			default:
				r := one(t, s.r).Mul(frac.Whole(unit)).Floor()
				root, _ := r.Div(frac.Whole(unit))
				want(t, what, f, err, root.Text())
			}
		}
		if s.r == "far" || s.r == "" {
			continue
		}
		ok, err := ruin.Safe(s.income, l, one(t, s.r))
		wantSafe(t, "Safe of "+s.l, ok, err, true)
		ok, err = ruin.Safe(s.income, l, one(t, s.r).Add(tiny))
		wantSafe(t, "Safe of "+s.l+", a little more", ok, err, false)
		ok, err = ruin.Safe(s.income, l, frac.Whole(1))
		wantSafe(t, "Safe of "+s.l+" with 1", ok, err, true)
	}
}

// 10.2: Safe as its words say, with r of all sizes.
func TestSafeDrawn(t *testing.T) {
	r := rand.New(rand.NewSource(103))
	for i := range 300 {
		l := drawnLaw(r, 1+r.Intn(10))
		if i%10 == 0 {
			l = drawnLaw(r, 41)
		}
		income := r.Intn(9)
		under := 1 + r.Intn(50)
		for _, over := range []int{under, under + 1, under + r.Intn(1+under), under + r.Intn(5*under), 64 * under, 1000000 * under} {
			base, _ := frac.Of(over, under)
			ok, err := ruin.Safe(income, l, base)
			wantSafe(t, fmt.Sprint("Safe ", income, " ", frac.Words(l), " ", base.Text()), ok, err, bounded(income, l, rat(base)))
		}
	}
	l := longLaw(t, r, 41)
	base := one(t, drawnDigits(r, api.MaxDigits)+"/"+drawnDigits(r, api.MaxDigits-1))
	for _, income := range []int{0, 10, 20} {
		ok, err := ruin.Safe(income, l, base)
		wantSafe(t, "Safe, many digits", ok, err, bounded(income, l, rat(base)))
	}
}

// 10.2: Best against all multiples, one by one.
func TestBestOneByOne(t *testing.T) {
	r := rand.New(rand.NewSource(104))
	for range 60 {
		l := drawnLaw(r, 2+r.Intn(5))
		income := r.Intn(4)
		for bits := range 3 {
			unit := 1 << bits
			best := 0
			for n := unit; n <= 64*unit; n++ {
				if bounded(income, l, big.NewRat(int64(n), int64(unit))) {
					best = n
				}
			}
			f, err := ruin.Best(income, l, bits)
			want(t, fmt.Sprint("Best ", income, " ", frac.Words(l), " ", bits), f, err, big.NewRat(int64(best), int64(unit)).RatString())
		}
	}
}

// 10.2: what Best answers holds, and the next multiple does not; and ruin is at most as likely as the bound (Lundberg).
func TestLundberg(t *testing.T) {
	r := rand.New(rand.NewSource(105))
	for i := range 60 {
		l := drawnLaw(r, 2+r.Intn(8))
		if i%20 == 0 {
			l = drawnLaw(r, 41)
		}
		income, bits := r.Intn(21), r.Intn(13)
		what := fmt.Sprint(income, " ", frac.Words(l), " ", bits)
		best, err := ruin.Best(income, l, bits)
		if err != nil {
			t.Fatal(what, err)
		}
		step, _ := frac.Of(1, 1<<bits)
		if !bounded(income, l, rat(best)) || best.Cmp(frac.Whole(64)) < 0 && bounded(income, l, rat(best.Add(step))) {
			t.Errorf("Best %s: %s", what, best.Text())
		}
		wantBound(t, what, income, l, best)
	}
}

// wantBound fails unless ruin is at most as likely as the bound of r, from each start on.
func wantBound(t *testing.T, what string, income int, l claims.Law, r frac.Frac) {
	t.Helper()
	for start := 0; start <= 60; start += 7 {
		ruined, err := ruin.Within(start, income, l, 8)
		bound, _ := r.Pow(-start)
		if err != nil || ruined.Cmp(bound) > 0 {
			t.Errorf("%s: from %d on ruin is as likely as %s, %v, and the bound is %s", what, start, ruined.Text(), err, bound.Text())
		}
	}
}
