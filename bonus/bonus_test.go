package bonus_test

import (
	"fmt"
	"math/big"
	"math/rand"
	"slices"
	"testing"

	"tontine/api"
	"tontine/bonus"
	"tontine/frac"
)

// 12.1: which scales may be, and what is said first.
func TestCheck(t *testing.T) {
	for _, a := range amissScales(t) {
		wantError(t, a.what, bonus.Check(a.s), a.e)
	}
	for _, levels := range []int{1, 2, api.MaxStates} {
		for _, numbers := range []int{1, 2, 10} {
			if err := bonus.Check(still(levels, numbers)); err != nil {
				t.Errorf("%d levels, %d numbers: %v", levels, numbers, err)
			}
		}
	}
	for _, s := range []bonus.Scale{stairs(t), scale(t, "0", "0"), scale(t, "1;0", "7/3 0"), scale(t, "0 1 2;2;1 0", "0 0 0")} {
		if err := bonus.Check(s); err != nil {
			t.Errorf("%v: %v", s, err)
		}
	}
}

// 12.2, 12.3: all other calls say it, too, ahead of what else is amiss with them.
func TestCheckOfAll(t *testing.T) {
	for _, a := range amissScales(t) {
		n, err := bonus.Next(a.s, 0, 0)
		wantError(t, "Next, "+a.what, err, a.e, n)
		n, err = bonus.Next(a.s, -1, -1)
		wantError(t, "Next, amiss, "+a.what, err, a.e, n)
		l, err := bonus.Walk(a.s, 0, []int{0, 1})
		wantError(t, "Walk, "+a.what, err, a.e, l)
		l, err = bonus.Walk(a.s, -1, []int{-1})
		wantError(t, "Walk, amiss, "+a.what, err, a.e, l)
		l, err = bonus.Walk(a.s, 0, make([]int, api.MaxYears+1))
		wantError(t, "Walk, too long, "+a.what, err, api.ErrLimit, l)
		m, err := bonus.Matrix(a.s, sure(0, 0))
		wantError(t, "Matrix, "+a.what, err, a.e, m)
		m, err = bonus.Matrix(a.s, nil)
		wantError(t, "Matrix, amiss, "+a.what, err, a.e, m)
		x, mean, err := bonus.Steady(a.s, sure(0, 0))
		wantError(t, "Steady, "+a.what, err, a.e, x, mean)
		x, mean, err = bonus.Steady(a.s, nil)
		wantError(t, "Steady, amiss, "+a.what, err, a.e, x, mean)
		h, err := bonus.Hunger(a.s, 1)
		wantError(t, "Hunger, "+a.what, err, a.e, h)
		h, err = bonus.Hunger(a.s, -1)
		wantError(t, "Hunger, amiss, "+a.what, err, a.e, h)
	}
}

// 12.2: the level behind a year; the last number counts for more claims, too.
func TestNext(t *testing.T) {
	s := scale(t, "1 0;2 0 1;3;0 1 2 3", "1 1 1 1")
	for _, c := range []struct{ level, n, next int }{
		{0, 0, 1}, {0, 1, 0}, {0, 2, 0}, {0, greatestInt, 0},
		{1, 0, 2}, {1, 1, 0}, {1, 2, 1}, {1, 3, 1}, {1, 1000, 1},
		{2, 0, 3}, {2, 1, 3}, {2, greatestInt, 3},
		{3, 0, 0}, {3, 1, 1}, {3, 2, 2}, {3, 3, 3}, {3, 4, 3}, {3, greatestInt, 3},
	} {
		next, err := bonus.Next(s, c.level, c.n)
		if next != c.next || err != nil {
			t.Errorf("behind %d with %d claims: %d, %v, not %d", c.level, c.n, next, err, c.next)
		}
	}
	for _, c := range []struct{ level, n int }{{-1, 0}, {4, 0}, {leastInt, 0}, {greatestInt, 0}, {0, -1}, {3, leastInt}, {-1, -1}, {4, -1}} {
		next, err := bonus.Next(s, c.level, c.n)
		wantError(t, fmt.Sprint("Next ", c), err, api.ErrRange, next)
	}
}

// 12.2: the levels, the first one ahead.
func TestWalk(t *testing.T) {
	for _, c := range []struct {
		level  int
		years  []int
		levels []int
	}{
		{0, nil, []int{0}},
		{2, []int{}, []int{2}},
		{0, []int{0}, []int{0, 1}},
		{0, []int{0, 0, 0, 0}, []int{0, 1, 2, 2, 2}},
		{2, []int{1, 1, 1}, []int{2, 1, 0, 0}},
		{2, []int{2, 0, 0, 1, 0, 9, 0}, []int{2, 0, 1, 2, 1, 2, 0, 1}},
		{1, []int{greatestInt, 0}, []int{1, 0, 1}},
	} {
		levels, err := bonus.Walk(stairs(t), c.level, c.years)
		if err != nil || !slices.Equal(levels, c.levels) {
			t.Errorf("from %d, %v: %v, %v, not %v", c.level, c.years, levels, err, c.levels)
		}
	}
}

// 12.2: what is said of a walk.
func TestWalkErrors(t *testing.T) {
	s := stairs(t)
	for _, c := range []struct {
		what  string
		level int
		years []int
		e     api.Errno
	}{
		{"a year too many", 0, make([]int, api.MaxYears+1), api.ErrLimit},
		{"far too many years", 0, make([]int, 100000), api.ErrLimit},
		{"a year too many, from no level, all below 0", -1, slices.Repeat([]int{-1}, api.MaxYears+1), api.ErrLimit},
		{"from below 0", -1, nil, api.ErrRange},
		{"from no level", 3, []int{0}, api.ErrRange},
		{"from the highest number", greatestInt, nil, api.ErrRange},
		{"first year below 0", 0, []int{-1}, api.ErrRange},
		{"last year below 0", 0, append(make([]int, api.MaxYears-1), -1), api.ErrRange},
		{"a year below 0 between", 0, []int{0, leastInt, 0}, api.ErrRange},
	} {
		l, err := bonus.Walk(s, c.level, c.years)
		wantError(t, c.what, err, c.e, l)
	}
	levels, err := bonus.Walk(s, 0, make([]int, api.MaxYears))
	if err != nil || len(levels) != api.MaxYears+1 || levels[0] != 0 || levels[1] != 1 || levels[api.MaxYears] != 2 {
		t.Errorf("as many years as may be: %v, %v", levels, err)
	}
}

// 12.2: a walk is one step behind another.
func TestWalkIsNext(t *testing.T) {
	r := rand.New(rand.NewSource(121))
	for range 200 {
		s := drawnScale(r, 1+r.Intn(api.MaxStates))
		level := r.Intn(len(s.After))
		years := make([]int, r.Intn(30))
		for i := range years {
			years[i] = r.Intn(14)
		}
		levels, err := bonus.Walk(s, level, years)
		if err != nil || len(levels) != len(years)+1 || levels[0] != level {
			t.Fatalf("%v from %d, %v: %v, %v", s, level, years, levels, err)
		}
		for i, n := range years {
			next, err := bonus.Next(s, levels[i], n)
			if err != nil || next != levels[i+1] {
				t.Errorf("%v: behind %d with %d claims: %d, %v, and in the walk %d", s, levels[i], n, next, err, levels[i+1])
			}
		}
	}
}

// 12.3: by hand.
func TestHunger(t *testing.T) {
	for _, c := range []struct {
		after, factors string
		years          int
		text           string
	}{
		{"1 0;2 0;2 1 0", "100 70 50", 0, "0 0 0"},
		{"1 0;2 0;2 1 0", "100 70 50", 1, "30 50 20"}, // 100 less 70, 100 less 50, 70 less 50
		{"1 0;2 0;2 1 0", "100 70 50", 2, "50 70 20"}, // 170 less 120, 170 less 100, 120 less 100
		{"1 0;2 0;2 1 0", "100 70 50", 3, "50 70 20"}, // the same: from then on all are on top
		{"1 0;2 0;2 1 0", "100 70 50", 120, "50 70 20"},
		{"1 0;2 0;2 1 0", "100 70 1/2", 2, "199/2 169 139/2"},
		{"0", "7", 120, "0"}, // claims are not counted
		{"0;1", "7 9", 5, "0 0"},
		{"0 1;1 0", "1 2", 1, "1 -1"}, // who claims pays less on 1
		{"0 1;1 0", "1 2", 120, "120 -120"},
		{"1 1 0;0 1", "3 5", 1, "0 2"}, // one claim is as none on 0
		{"1 1 0;0 1", "3 5", 2, "0 0"}, // they take turns
		{"1 1 0;0 1", "3 5", 3, "0 2"},
		{"0 0 1;1 1 0", "1 2", 9, "0 0"}, // only one claim is held against none
	} {
		h, err := bonus.Hunger(scale(t, c.after, c.factors), c.years)
		wantRow(t, fmt.Sprint(c), h, err, c.text)
	}
	for _, years := range []int{-1, api.MaxYears + 1, leastInt, greatestInt} {
		h, err := bonus.Hunger(stairs(t), years)
		wantError(t, fmt.Sprint("years ", years), err, api.ErrRange, h)
	}
}

// paidWalk is what is paid in so many years behind one with so many claims, on that level, none coming any more.
func paidWalk(t *testing.T, s bonus.Scale, level, claims, years int) *big.Rat {
	t.Helper()
	sum := new(big.Rat)
	at, err := bonus.Next(s, level, claims)
	for range years {
		if err != nil {
			t.Fatal(err)
		}
		sum.Add(sum, rat(s.Factor[at]))
		at, err = bonus.Next(s, at, 0)
	}
	return sum
}

// 12.3: year by year.
func TestHungerDrawn(t *testing.T) {
	r := rand.New(rand.NewSource(122))
	for i := range 200 {
		s := drawnScale(r, 1+r.Intn(api.MaxStates))
		years := r.Intn(12)
		if i%20 == 0 {
			years = api.MaxYears
		}
		h, err := bonus.Hunger(s, years)
		if err != nil || len(h) != len(s.After) {
			t.Fatalf("%v, years %d: %v, %v", s, years, h, err)
		}
		for level, f := range h {
			more := paidWalk(t, s, level, 1, years)
			more.Sub(more, paidWalk(t, s, level, 0, years))
			want(t, fmt.Sprint(s, " years ", years, " level ", level), f, nil, more.RatString())
		}
	}
}

// P4: scales and years are not written into, nor what stands behind them; what comes out is fresh.
func TestMemory(t *testing.T) {
	back := []int{1, 0, 2, 0, 2, 1, 0, 77, 78}
	factors := fracs(t, "100 70 50 8 9")
	s := bonus.Scale{After: [][]int{back[:2], back[2:4], back[4:7], nil}[:3], Factor: factors[:3]}
	whole := copyOf(s)
	years, claims := []int{0, 1, 2, 55}, sure(0, 3)
	steps := func() string {
		n, _ := bonus.Next(s, 2, 1)
		walk, _ := bonus.Walk(s, 1, years[:3])
		m, _ := bonus.Matrix(s, claims[:2])
		x, mean, _ := bonus.Steady(s, claims[:2])
		h, _ := bonus.Hunger(s, 1)
		text := fmt.Sprint(bonus.Check(s), n, walk, m, frac.Words(x), mean.Text(), frac.Words(h))
		for _, row := range m {
			for i := range row {
				row[i] = frac.Whole(-9)
			}
			_ = append(row, frac.Whole(-9))
		}
		for i := range x {
			x[i], h[i] = frac.Whole(-9), frac.Whole(-9)
		}
		clear(walk)
		return text
	}
	first := steps()
	if again := steps(); again != first {
		t.Errorf("%s, then %s", first, again)
	}
	if fmt.Sprint(s) != fmt.Sprint(whole) || !slices.Equal(back, []int{1, 0, 2, 0, 2, 1, 0, 77, 78}) || frac.Words(factors) != "100 70 50 8 9" {
		t.Errorf("%v, %v, %s: it wrote into the scale", s, back, frac.Words(factors))
	}
	if !slices.Equal(years, []int{0, 1, 2, 55}) || frac.Words(claims) != "1 0 0 0" {
		t.Errorf("%v, %s: it wrote into the years, or into the law", years, frac.Words(claims))
	}
}
