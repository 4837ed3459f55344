package cover_test

import (
	"fmt"
	"math/rand"
	"slices"
	"strings"
	"testing"

	"tontine/api"
	"tontine/chain"
	"tontine/cover"
	"tontine/frac"
)

// written are ways as a text: states, chance and loss of each.
func written(l []cover.Path) string {
	var texts []string
	for _, p := range l {
		texts = append(texts, fmt.Sprint(p.States, " ", p.Chance.Text(), " ", p.Loss.Text()))
	}
	return strings.Join(texts, "; ")
}

// wantPaths fails unless Paths are all ways that there are, in order.
func wantPaths(t *testing.T, what string, p promise, premium frac.Frac) {
	t.Helper()
	got, err := p.made(t).Paths(premium)
	if err != nil {
		t.Errorf("%s: %v", what, err)
	}
	l := p.ways(t, p.start, 0, len(p.years), true)
	if len(got) != len(l) {
		t.Fatalf("%s: %d ways, not %d", what, len(got), len(l))
	}
	for i, w := range l {
		if !slices.Equal(got[i].States, w.states) {
			t.Errorf("%s: way %d is %v, not %v", what, i, got[i].States, w.states)
		}
		wantRat(t, what+", chance", got[i].Chance, nil, w.chance)
		wantRat(t, what+", loss", got[i].Loss, nil, p.loss(t, w, premium))
		if i > 0 && slices.Compare(got[i-1].States, got[i].States) >= 0 {
			t.Errorf("%s: %v is behind %v", what, got[i].States, got[i-1].States)
		}
	}
}

// 5.5: by hand.
func TestPathsByHand(t *testing.T) {
	for _, s := range []struct {
		p             promise
		premium, text string
	}{
		{promised(t, "1", "1", 0, "3", "8", "6", "1"), "2", "[0 0] 1 8"},
		{promised(t, "1/2 1/2;0 1", "1", 0, "1 0", "0 10;0 0", "4 2", "1 0"), "3", "[0 0] 1/2 0; [0 1] 1/2 4"},
		{promised(t, "1/2 1/2;0 1", "1", 1, "1 0", "0 10;0 0", "4 2", "1 0"), "3", "[1 1] 1 1"},
		{promised(t, "0 1;1 0|1/3 2/3;1/4 3/4", "1 1", 0, "0 4", "0 8;16 0", "0 1", "1 0"), "5", "[0 1 0] 1/4 5; [0 1 1] 3/4 5/4"},
		{term(t), "100", "[0 0 0 0] 2/5 -126100/441; [0 0 0 1] 3/10 5351900/9261; [0 0 1 1] 1/5 313900/441; [0 1 1 1] 1/10 17900/21"},
	} {
		got, err := s.p.made(t).Paths(one(t, s.premium))
		if err != nil || written(got) != s.text {
			t.Errorf("%s, %v, not %s", written(got), err, s.text)
		}
	}
}

// 5.5: against all ways that there are.
func TestPathsAgainstAllWays(t *testing.T) {
	r := rand.New(rand.NewSource(57))
	for round := range 60 {
		p := drawn(r, 1+r.Intn(4), 1+r.Intn(5))
		wantPaths(t, fmt.Sprint("round ", round), p, drawnPremium(r))
	}
	wantPaths(t, "as many states as may be", drawn(r, api.MaxStates, 3), drawnPremium(r))
}

// growing are years with so many ways from 0: the one that stays in 0, and those in 1 and 2, which double each year, one more coming from 0 wherever a binary digit of their number is 1.
func growing(ways int) []chain.Matrix {
	half, _ := frac.Of(1, 2)
	no, yes := frac.Whole(0), frac.Whole(1)
	var years []chain.Matrix
	for _, digit := range fmt.Sprintf("%b", ways-1) {
		m := chain.Matrix{{yes, no, no}, {no, half, half}, {no, half, half}}
		if digit == '1' {
			m[0] = []frac.Frac{half, half, no}
		}
		years = append(years, m)
	}
	return years
}

// paidNothing is a promise of nothing, along such years.
func paidNothing(years []chain.Matrix) promise {
	n := make([]frac.Frac, len(years[0]))
	return promise{years, 0, make([]frac.Frac, len(years)), n, n, n, slices.Repeat([][]frac.Frac{n}, len(n))}
}

// 5.5: 2,000 ways may be, one more not.
func TestPathsLimit(t *testing.T) {
	for _, ways := range []int{1999, 2000, 2001, 2002, 4000, 1 << 20} {
		p := paidNothing(growing(ways))
		got, err := p.made(t).Paths(frac.Whole(1))
		what := fmt.Sprint(ways, " ways")
		if ways > 2000 {
			wantError(t, what, err, api.ErrLimit, got)
			continue
		}
		if err != nil || len(got) != ways {
			t.Errorf("%s: %d, %v", what, len(got), err)
		}
	}
	p := paidNothing(slices.Concat(growing(2000), slices.Repeat([]chain.Matrix{rows(t, "1 0 0;0 1 0;0 0 1")}, 100)))
	got, err := p.made(t).Paths(frac.Whole(1))
	if err != nil || len(got) != 2000 {
		t.Errorf("2000 ways that go on: %d, %v", len(got), err)
	}
	p = paidNothing(slices.Concat(growing(2001), slices.Repeat([]chain.Matrix{rows(t, "1 0 0;1 0 0;1 0 0")}, 100)))
	got, err = p.made(t).Paths(frac.Whole(1))
	wantError(t, "2001 ways that come together", err, api.ErrLimit, got)
}

// 5.5: far too many ways are told as soon as few too many: every state behind every one, as many years as may be.
func TestPathsOfAll(t *testing.T) {
	eighth, _ := frac.Of(1, 8)
	row := slices.Repeat([]frac.Frac{eighth}, api.MaxStates)
	p := paidNothing(slices.Repeat([]chain.Matrix{slices.Repeat([][]frac.Frac{row}, api.MaxStates)}, api.MaxYears))
	got, err := p.made(t).Paths(frac.Whole(1))
	wantError(t, "all ways", err, api.ErrLimit, got)
	p.years, p.rates = p.years[:4], p.rates[:4]
	got, err = p.made(t).Paths(frac.Whole(1))
	wantError(t, "4096 ways", err, api.ErrLimit, got)
	p.years, p.rates = p.years[:3], p.rates[:3]
	got, err = p.made(t).Paths(frac.Whole(1))
	if err != nil || len(got) != 512 {
		t.Errorf("512 ways: %d, %v", len(got), err)
	}
}

// 5.5: only ways from the start are counted.
func TestPathsFromTheStart(t *testing.T) {
	p := paidNothing(slices.Repeat([]chain.Matrix{rows(t, "1/2 1/2 0;1/2 1/2 0;0 0 1")}, 20))
	got, err := p.made(t).Paths(frac.Whole(1))
	wantError(t, "from 0", err, api.ErrLimit, got)
	p.start = 2
	got, err = p.made(t).Paths(frac.Whole(1))
	if err != nil || len(got) != 1 {
		t.Errorf("from 2: %d, %v", len(got), err)
	}
}

// DOC.md, 3: the chances of all ways are one together, their mean loss is what has to be there at the start, and its variance that of Spread.
func TestPathsAndTheOthers(t *testing.T) {
	r := rand.New(rand.NewSource(58))
	for round := range 20 {
		p := drawn(r, 1+r.Intn(3), 1+r.Intn(6))
		c := p.made(t)
		premium := drawnPremium(r)
		got, err := c.Paths(premium)
		if err != nil {
			t.Fatal(err)
		}
		var chances, mean, squares frac.Frac
		for _, x := range got {
			chances = chances.Add(x.Chance)
			mean = mean.Add(x.Chance.Mul(x.Loss))
			squares = squares.Add(x.Chance.Mul(x.Loss).Mul(x.Loss))
		}
		what := fmt.Sprint("round ", round)
		want(t, what, chances, nil, "1")
		reserve, err := c.Reserve(premium, 0, p.start)
		want(t, what, reserve, err, mean.Text())
		variance, _ := c.Spread(premium)
		want(t, what, variance, nil, squares.Sub(mean.Mul(mean)).Text())
	}
}

// P4: each way's states are the caller's, and share nothing with another one's.
func TestPathsAreTheCallers(t *testing.T) {
	c := ill(t).made(t)
	first, err := c.Paths(frac.Whole(7))
	if err != nil {
		t.Fatal(err)
	}
	text := written(first)
	for n, p := range first {
		_ = append(p.States, 1000+n)
		for i := range p.States {
			p.States[i] = n
		}
	}
	for n, p := range first {
		if !slices.Equal(p.States, slices.Repeat([]int{n}, 4)) {
			t.Errorf("way %d shares what it has: %v", n, p.States)
		}
	}
	again, err := c.Paths(frac.Whole(7))
	if err != nil || written(again) != text {
		t.Errorf("%s, %v, not %s", written(again), err, text)
	}
}
