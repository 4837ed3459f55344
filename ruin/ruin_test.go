package ruin_test

import (
	"fmt"
	"math/rand"
	"strings"
	"testing"

	"tontine/api"
	"tontine/claims"
	"tontine/frac"
	"tontine/ruin"
)

// DOC.md, example 10.
func TestExample(t *testing.T) {
	f, err := ruin.Within(1, 1, law(t, "1/2 0 0 1/2"), 3)
	want(t, "Within", f, err, "5/8")
}

// asked is a call with a law, and with numbers that may be, or are amiss, too.
type asked struct {
	what        string
	good, amiss func(l claims.Law) (any, error)
}

// calls are all that there are.
func calls() []asked {
	two := frac.Whole(2)
	return []asked{
		{"Within",
			func(l claims.Law) (any, error) { return ruin.Within(1, 1, l, 2) },
			func(l claims.Law) (any, error) { return ruin.Within(-1, 21, l, 17) }},
		{"Safe",
			func(l claims.Law) (any, error) { return ruin.Safe(1, l, two) },
			func(l claims.Law) (any, error) { return ruin.Safe(21, l, frac.Frac{}) }},
		{"Best",
			func(l claims.Law) (any, error) { return ruin.Best(1, l, 2) },
			func(l claims.Law) (any, error) { return ruin.Best(-1, l, 13) }},
	}
}

// 10.1: all calls say first what is wrong with the law; then that a number is out of its range; then that the law is too long.
func TestErrors(t *testing.T) {
	tiny := "1/" + strings.Repeat("9", api.MaxDigits)
	for _, c := range calls() {
		for _, s := range []struct {
			what string
			l    claims.Law
			e    api.Errno
		}{
			{"nil", nil, api.ErrLimit},
			{"no numbers", claims.Law{}, api.ErrLimit},
			{"a number too many for a law", sure(api.MaxSize, 1), api.ErrLimit},
			{"far too many", make(claims.Law, 100000), api.ErrLimit},
			{"below 0", law(t, "-1/2 3/2"), api.ErrArg},
			{"below 0, not 1 together", law(t, "1 1 -1/2"), api.ErrArg},
			{"noughts", law(t, "0 0"), api.ErrSum},
			{"less than 1 together", law(t, "1/2 1/3"), api.ErrSum},
			{"a little more than 1", law(t, "1/2 1/2 "+tiny), api.ErrSum},
			{"too long and not 1 together", make(claims.Law, 42), api.ErrSum},
		} {
			out, err := c.good(s.l)
			wantError(t, c.what+", "+s.what, err, s.e, out)
			out, err = c.amiss(s.l)
			wantError(t, c.what+", amiss, "+s.what, err, s.e, out)
		}
		for _, long := range []claims.Law{sure(41, 0), sure(0, 41), sure(1, api.MaxSize-1), sure(api.MaxSize, 0)} {
			out, err := c.good(long)
			wantError(t, fmt.Sprint(c.what, ", ", len(long), " numbers"), err, api.ErrLimit, out)
			out, err = c.amiss(long)
			wantError(t, fmt.Sprint(c.what, ", amiss, ", len(long), " numbers"), err, api.ErrRange, out)
		}
		for _, good := range []claims.Law{sure(0, 0), sure(40, 0), sure(0, 40), law(t, "1/2 1/2")} {
			if _, err := c.good(good); err != nil {
				t.Errorf("%s of %s: %v", c.what, frac.Words(good), err)
			}
			out, err := c.amiss(good)
			wantError(t, c.what+", amiss", err, api.ErrRange, out)
		}
	}
}

// 10.1: which numbers may be.
func TestRanges(t *testing.T) {
	l := law(t, "1/2 1/2")
	for _, s := range []struct{ start, income, years int }{
		{-1, 1, 1}, {61, 1, 1}, {leastInt, 1, 1}, {greatestInt, 1, 1},
		{1, -1, 1}, {1, 21, 1}, {1, leastInt, 1}, {1, greatestInt, 1},
		{1, 1, -1}, {1, 1, 17}, {1, 1, leastInt}, {1, 1, greatestInt},
		{greatestInt, greatestInt, greatestInt}, {leastInt, leastInt, leastInt},
	} {
		f, err := ruin.Within(s.start, s.income, l, s.years)
		wantError(t, fmt.Sprint("Within ", s), err, api.ErrRange, f)
		if s.start != 1 || s.years != 1 {
			continue
		}
		ok, err := ruin.Safe(s.income, l, frac.Whole(2))
		wantError(t, fmt.Sprint("Safe ", s), err, api.ErrRange, ok)
		f, err = ruin.Best(s.income, l, 2)
		wantError(t, fmt.Sprint("Best ", s), err, api.ErrRange, f)
	}
	for _, start := range []int{0, 60} {
		for _, income := range []int{0, 20} {
			for _, years := range []int{0, 16} {
				f, err := ruin.Within(start, income, l, years)
				want(t, fmt.Sprint("Within ", start, income, years), f, err, ruinedForward(start, income, l, years).RatString())
			}
		}
	}
}

// 10.1: by hand.
func TestWithinByHand(t *testing.T) {
	for _, s := range []struct {
		start, income int
		l             string
		years         int
		text          string
	}{
		{0, 0, "1", 16, "0"},
		{0, 0, "0 1", 0, "0"},
		{0, 0, "0 1", 1, "1"},
		{1, 0, "0 1", 1, "0"}, // 0 is not below 0
		{1, 0, "0 1", 2, "1"},
		{15, 0, "0 1", 16, "1"},
		{16, 0, "0 1", 16, "0"},
		{0, 1, "0 1", 16, "0"},
		{0, 1, "0 0 1", 1, "1"},
		{0, 0, "1/2 1/2", 1, "1/2"},
		{0, 0, "1/2 1/2", 16, "65535/65536"},
		{0, 1, "1/2 1/2", 16, "0"},
		{0, 1, "1/2 0 1/2", 1, "1/2"},
		{0, 1, "1/2 0 1/2", 2, "1/2"}, // 1 is there, and 0 behind the second year
		{0, 1, "1/2 0 1/2", 3, "5/8"},
		{0, 1, "1/2 0 1/2 0 0", 3, "5/8"},
		{1, 1, "1/2 0 0 1/2", 1, "1/2"},
		{1, 1, "1/2 0 0 1/2", 2, "1/2"},
		{0, 2, "2/3 0 0 1/3", 2, "1/3"}, // -1 counts, though the next year makes up for it
		{60, 20, "0 0 0 0 0 0 0 0 0 0 0 0 0 0 0 0 0 0 0 0 0 0 0 0 0 0 0 0 0 0 0 0 0 0 0 0 0 0 0 0 1", 3, "0"},
		{60, 20, "0 0 0 0 0 0 0 0 0 0 0 0 0 0 0 0 0 0 0 0 0 0 0 0 0 0 0 0 0 0 0 0 0 0 0 0 0 0 0 0 1", 4, "1"},
	} {
		f, err := ruin.Within(s.start, s.income, law(t, s.l), s.years)
		want(t, fmt.Sprint("Within ", s), f, err, s.text)
	}
}

// 10.1: against all ways.
func TestWithinWays(t *testing.T) {
	r := rand.New(rand.NewSource(101))
	for range 400 {
		l := drawnLaw(r, 1+r.Intn(6))
		start, income, years := r.Intn(6), r.Intn(4), r.Intn(5)
		f, err := ruin.Within(start, income, l, years)
		want(t, fmt.Sprint("Within ", start, income, frac.Words(l), years), f, err, ruinedWays(start, income, l, years).RatString())
	}
}

// 10.1: as great as may be, and of many digits, year by year.
func TestWithinFar(t *testing.T) {
	r := rand.New(rand.NewSource(102))
	for range 6 {
		l := drawnLaw(r, 41)
		start, income, years := 60-r.Intn(3)*r.Intn(30), 20-r.Intn(12), 16-r.Intn(3)
		f, err := ruin.Within(start, income, l, years)
		want(t, fmt.Sprint("Within ", start, income, years), f, err, ruinedForward(start, income, l, years).RatString())
	}
	l := longLaw(t, r, 7)
	f, err := ruin.Within(9, 2, l, 8)
	want(t, "Within, many digits", f, err, ruinedForward(9, 2, l, 8).RatString())
}

// P4: nothing that is handed in is changed, nor what stands behind it.
func TestOwnMemory(t *testing.T) {
	back := law(t, "1/4 1/4 1/4 1/4 5 6")
	before := frac.Words(back)
	for _, c := range calls() {
		first, err := c.good(back[:4])
		if err != nil {
			t.Errorf("%s: %v", c.what, err)
		}
		again, _ := c.good(back[:4])
		if fmt.Sprint(first) != fmt.Sprint(again) {
			t.Errorf("%s: %v, then %v", c.what, first, again)
		}
		if frac.Words(back) != before {
			t.Fatalf("%s wrote into the law", c.what)
		}
	}
}
