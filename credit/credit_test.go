package credit_test

import (
	"fmt"
	"math/big"
	"math/rand"
	"reflect"
	"strings"
	"testing"

	"tontine/api"
	"tontine/credit"
	"tontine/frac"
)

// told is what was found, as texts.
func told(f credit.Found) string {
	return strings.Join([]string{f.Mean.Text(), f.Within.Text(), f.Between.Text(), f.Own.Text(), frac.Words(f.Premiums)}, " | ")
}

// wantFound fails unless this was found, without an error.
func wantFound(t *testing.T, what string, f credit.Found, err error, text string) {
	t.Helper()
	if err != nil || told(f) != text {
		t.Errorf("%s: %s, %v, not %s", what, told(f), err, text)
	}
}

// DOC.md, example 11.
func TestExample(t *testing.T) {
	f, err := credit.Estimate(rowsOf(t, "1 2 3;4 6 5"))
	wantFound(t, "Estimate", f, err, "7/2 | 1 | 25/6 | 25/27 | 19/9 44/9")
}

// 11.1: how many rows and years there may be, said ahead of whether all have as many.
func TestEstimateErrors(t *testing.T) {
	two := make([]frac.Frac, 2)
	for _, s := range []struct {
		what string
		rows [][]frac.Frac
		e    api.Errno
	}{
		{"nil", nil, api.ErrLimit},
		{"no rows", [][]frac.Frac{}, api.ErrLimit},
		{"one row", noughts(1, 3), api.ErrLimit},
		{"one row too many", noughts(api.MaxRows+1, 3), api.ErrLimit},
		{"far too many rows", noughts(5000, 2), api.ErrLimit},
		{"no years", noughts(3, 0), api.ErrLimit},
		{"nil rows", make([][]frac.Frac, 3), api.ErrLimit},
		{"one year", noughts(3, 1), api.ErrLimit},
		{"one year too many", noughts(3, api.MaxRows+1), api.ErrLimit},
		{"far too many years", noughts(2, 50000), api.ErrLimit},
		{"too many rows, unlike", append(noughts(api.MaxRows, 3), two), api.ErrLimit},
		{"one year in the first row alone", [][]frac.Frac{two[:1], two, two}, api.ErrLimit},
		{"too many in the first row alone", append(noughts(1, api.MaxRows+1), two), api.ErrLimit},
		{"one year in the second row", [][]frac.Frac{two, two[:1]}, api.ErrForm},
		{"no year in the second row", [][]frac.Frac{two, nil}, api.ErrForm},
		{"too many in the second row", append([][]frac.Frac{two}, noughts(1, api.MaxRows+1)...), api.ErrForm},
		{"one more in the last row", append(noughts(api.MaxRows-1, 2), make([]frac.Frac, 3)), api.ErrForm},
		{"one less in the last row", append(noughts(api.MaxRows-1, 3), two), api.ErrForm},
	} {
		f, err := credit.Estimate(s.rows)
		wantError(t, s.what, err, s.e, f)
	}
}

// 11.1: as few and as many rows and years as may be.
func TestEstimateEdges(t *testing.T) {
	r := rand.New(rand.NewSource(111))
	for _, rows := range []int{2, 3, api.MaxRows} {
		for _, years := range []int{2, 3, api.MaxRows} {
			f, err := credit.Estimate(noughts(rows, years))
			wantFound(t, fmt.Sprint(rows, " rows of ", years, " noughts"), f, err, "0 | 0 | 0 | 0 |"+strings.Repeat(" 0", rows))
			l := drawnRows(r, rows, years)
			f, err = credit.Estimate(l)
			wantFound(t, fmt.Sprint(rows, " rows of ", years), f, err, byWords(l))
		}
	}
}

// 11.1: by hand.
func TestEstimateByHand(t *testing.T) {
	for _, s := range []struct{ rows, text string }{
		{"5 5;5 5", "5 | 0 | 0 | 0 | 5 5"},                 // all alike: nothing is spread
		{"1 1;3 3", "2 | 0 | 2 | 1 | 1 3"},                 // years of one risk alike: its own mean tells all
		{"0 2;1 1", "1 | 1 | 0 | 0 | 1 1"},                 // means alike: below 0 counts as 0
		{"0 2;1 3", "3/2 | 2 | 0 | 0 | 3/2 3/2"},           // 1/2 less 2/2 is below 0
		{"0 2;2 4", "2 | 2 | 1 | 1/2 | 3/2 5/2"},           // 2 less 2/2
		{"0 1;1 2", "1 | 1/2 | 1/4 | 1/2 | 3/4 5/4"},       // 1/2 less 1/4
		{"-1 1;0 2", "1/2 | 2 | 0 | 0 | 1/2 1/2"},          // 1/2 less 1
		{"0 2;0 2;3 5", "2 | 2 | 2 | 2/3 | 4/3 4/3 10/3"},  // three rows
		{"0 0;0 0;0 6", "1 | 6 | 0 | 0 | 1 1 1"},           // 3 less 3: just 0
		{"0 0;0 2;1 1", "2/3 | 2/3 | 0 | 0 | 2/3 2/3 2/3"}, // 1/3 less 1/3
		{"-4 -2;2 4", "0 | 2 | 17 | 17/18 | -17/6 17/6"},   // below 0
		{"1/2 1/3;1/4 1/5", "77/240 | 109/14400 | 7/480 | 420/529 | 2191/5520 1351/5520"},
	} {
		f, err := credit.Estimate(rowsOf(t, s.rows))
		wantFound(t, s.rows, f, err, s.text)
	}
}

// byWords is what rows tell, just as 11.1 says it.
func byWords(rows [][]frac.Frac) string {
	n := len(rows[0])
	var means, spreads []*big.Rat
	for _, row := range rows {
		means = append(means, meanOf(rats(row)))
		spreads = append(spreads, besideOf(rats(row)))
	}
	mean, within := meanOf(means), meanOf(spreads)
	between, own := sub(besideOf(means), div(within, n)), new(big.Rat)
	if between.Sign() <= 0 {
		between = new(big.Rat)
	} else {
		own.Quo(between, add(between, div(within, n)))
	}
	var premiums []string
	for _, m := range means {
		rest := sub(big.NewRat(1, 1), own)
		premiums = append(premiums, add(mul(own, m), mul(rest, mean)).RatString())
	}
	return strings.Join([]string{mean.RatString(), within.RatString(), between.RatString(), own.RatString(), strings.Join(premiums, " ")}, " | ")
}

// 11.1: against its words; and the premiums are the mean of all together.
func TestEstimateDrawn(t *testing.T) {
	r := rand.New(rand.NewSource(112))
	none := 0
	for range 400 {
		rows := drawnRows(r, 2+r.Intn(5), 2+r.Intn(5))
		f, err := credit.Estimate(rows)
		wantFound(t, fmt.Sprint(rows), f, err, byWords(rows))
		if f.Between.Sign() == 0 {
			none++
		}
		if got := meanOf(rats(f.Premiums)); got.Cmp(rat(f.Mean)) != 0 {
			t.Errorf("the premiums of %v are %s, in the mean, and the mean of all is %s", rows, got.RatString(), f.Mean.Text())
		}
	}
	if none == 0 || none == 400 {
		t.Errorf("%d of 400 have nothing between", none)
	}
	long := noughts(4, 3)
	for _, row := range long {
		for i := range row {
			row[i] = longFrac(t, r)
		}
	}
	f, err := credit.Estimate(long)
	wantFound(t, "many digits", f, err, byWords(long))
}

// P4: rows are not written into, nor what stands behind them; they may be one and the same; what comes out is fresh.
func TestEstimateMemory(t *testing.T) {
	back := fracs(t, "1 2 3 4 6 5 7 8")
	rows := [][]frac.Frac{back[:3], back[3:6], back[:3], nil}
	first, err := credit.Estimate(rows[:3])
	if err != nil {
		t.Fatal(err)
	}
	text := told(first)
	for i := range first.Premiums {
		first.Premiums[i] = frac.Whole(-7)
	}
	again, _ := credit.Estimate(rows[:3])
	if told(again) != text {
		t.Errorf("%s, then %s", text, told(again))
	}
	if frac.Words(back) != "1 2 3 4 6 5 7 8" || rows[3] != nil || !reflect.DeepEqual(rows[0], back[:3]) {
		t.Errorf("%s, %v: it wrote into the rows", frac.Words(back), rows)
	}
}
