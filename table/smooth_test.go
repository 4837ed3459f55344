package table_test

import (
	"math/big"
	"math/rand"
	"strconv"
	"strings"
	"testing"

	"tontine/api"
	"tontine/frac"
	"tontine/table"
)

// smoothed is a row that there is.
func smoothed(t *testing.T, seen, weights []frac.Frac, order int, often frac.Frac) []frac.Frac {
	t.Helper()
	v, err := table.Smooth(seen, weights, order, often)
	if err != nil {
		t.Fatalf("Smooth(%s; %s; %d; %s): %v", frac.Words(seen), frac.Words(weights), order, often.Text(), err)
	}
	return v
}

// 2.4: the document's example, and rows that are worked out by hand.
func TestSmooth(t *testing.T) {
	for _, c := range []struct {
		seen, weights string
		order         int
		often, want   string
	}{
		{"1 3 2 5", "1 1 1 1", 2, "2", "17/15 11/5 16/5 67/15"},
		{"1 3 2 5", "1 1 1 1", 2, "0", "1 3 2 5"},
		{"1 3 2 5", "2 1/2 3 100", 3, "0", "1 3 2 5"},
		{"0 1", "1 1", 1, "1", "1/3 2/3"},
		{"0 1", "1 0", 1, "1", "0 0"},
		{"0 1", "0 1", 1, "1", "1 1"},
		{"0 1", "1 3", 1, "1/2", "3/10 9/10"},
		{"7 7 7", "1 2 3", 1, "5", "7 7 7"},
		{"1 0 3", "1 0 1", 1, "1", "3/2 2 5/2"},
		{"1 9 3", "1 0 1", 2, "1", "1 2 3"},
		{"-1 9 -3 9", "1 0 1 0", 2, "1/7", "-1 -2 -3 -4"},
		{"0 0 1 0 0", "1 1 1 1 1", 4, "1", "-6/71 24/71 35/71 24/71 -6/71"},
	} {
		v := smoothed(t, fracs(t, c.seen), fracs(t, c.weights), c.order, one(t, c.often))
		if got := frac.Words(v); got != c.want {
			t.Errorf("%s; %s; %d; %s: %s, not %s", c.seen, c.weights, c.order, c.often, got, c.want)
		}
	}
}

// 2.4: the errors, in their order.
func TestSmoothErrors(t *testing.T) {
	ones := func(n int) string { return strings.Repeat("1 ", n) }
	for _, c := range []struct {
		seen, weights string
		order         int
		often         string
		want          api.Errno
	}{
		{ones(40), ones(40), 4, "1", api.OK},
		{ones(2), ones(2), 1, "1", api.OK},
		{ones(5), ones(5), 4, "1", api.OK},
		{ones(3), ones(2), 1, "1", api.ErrArg},
		{ones(2), ones(3), 1, "1", api.ErrArg},
		{"", "1", 1, "1", api.ErrArg},
		{"1", "", 1, "1", api.ErrArg},
		{ones(3), ones(3), 0, "1", api.ErrArg},
		{ones(9), ones(9), 5, "1", api.ErrArg},
		{ones(3), ones(3), -1, "1", api.ErrArg},
		{ones(3), ones(3), leastInt, "1", api.ErrArg},
		{ones(3), ones(3), greatestInt, "1", api.ErrArg},
		{ones(3), ones(3), 1, "-1/1000", api.ErrArg},
		{ones(41), ones(40), 1, "1", api.ErrArg},
		{ones(41), ones(41), 5, "1", api.ErrArg},
		{"", "", 1, "-1", api.ErrArg},
		{"", "", 1, "1", api.ErrRange},
		{"1", "1", 1, "1", api.ErrRange},
		{"1", "-1", 1, "1", api.ErrRange},
		{ones(4), ones(4), 4, "1", api.ErrRange},
		{ones(41), ones(41), 1, "1", api.ErrRange},
		{ones(41), ones(40) + "-1", 1, "0", api.ErrRange},
		{ones(3), "1 -1 1", 1, "1", api.ErrArg},
		{ones(3), "1 0 -1/1000", 1, "0", api.ErrArg},
		{ones(3), "0 -1 0", 2, "1", api.ErrArg},
	} {
		what := c.seen + "; " + c.weights + "; " + strconv.Itoa(c.order) + "; " + c.often
		v, err := table.Smooth(fracs(t, c.seen), fracs(t, c.weights), c.order, one(t, c.often))
		if c.want != api.OK {
			wantError(t, what, err, c.want, noPlace, v)
		} else if err != nil {
			t.Errorf("%s: %v", what, err)
		}
	}
}

// 2.4: there is just one row, if often is 0 and no weight is, or often is above 0 and at least as many weights as the order are.
func TestSmoothNone(t *testing.T) {
	r := rand.New(rand.NewSource(5))
	for order := 1; order <= 4; order++ {
		for n := order + 1; n <= 10; n++ {
			for above := range n + 1 {
				seen, weights := make([]frac.Frac, n), make([]frac.Frac, n)
				for i, place := range r.Perm(n) {
					seen[i] = frac.Whole(r.Intn(20))
					if i < above {
						weights[place] = frac.Whole(1 + r.Intn(9))
					}
				}
				wantOne(t, seen, weights, order, frac.Whole(0), above == n)
				wantOne(t, seen, weights, order, one(t, "1/7"), above >= order)
			}
		}
	}
}

// wantOne fails unless there is just one row, or unless there is not.
func wantOne(t *testing.T, seen, weights []frac.Frac, order int, often frac.Frac, just bool) {
	t.Helper()
	what := frac.Words(weights) + "; " + strconv.Itoa(order) + "; " + often.Text()
	v, err := table.Smooth(seen, weights, order, often)
	if !just {
		wantError(t, what, err, api.ErrNone, noPlace, v)
	} else if err != nil || len(v) != len(seen) {
		t.Errorf("%s: %d fractions, %v", what, len(v), err)
	}
}

// rough is what is to be the least: the weighted squares, and so often those of the differences.
func rough(v, seen, weights []*big.Rat, order int, often *big.Rat) *big.Rat {
	var sum, square big.Rat
	for i := range v {
		square.Sub(v[i], seen[i])
		square.Mul(&square, &square)
		sum.Add(&sum, square.Mul(&square, weights[i]))
	}
	diffs := v
	for range order {
		var next []*big.Rat
		for i := range len(diffs) - 1 {
			next = append(next, new(big.Rat).Sub(diffs[i+1], diffs[i]))
		}
		diffs = next
	}
	for _, d := range diffs {
		square.Mul(d, d)
		sum.Add(&sum, square.Mul(&square, often))
	}
	return &sum
}

// rats are fractions as the library has them.
func rats(t *testing.T, l []frac.Frac) []*big.Rat {
	t.Helper()
	var out []*big.Rat
	for _, f := range l {
		out = append(out, rat(t, f))
	}
	return out
}

// wantLeast fails unless every row beside v is rougher. The sum is a square one: if it grows by the same both ways along each v, it is the least just there.
func wantLeast(t *testing.T, v, seen, weights []frac.Frac, order int, often frac.Frac) {
	t.Helper()
	row, s, w, o := rats(t, v), rats(t, seen), rats(t, weights), rat(t, often)
	least := rough(row, s, w, order, o)
	for i, was := range row {
		row[i] = new(big.Rat).Add(was, big.NewRat(1, 1))
		up := rough(row, s, w, order, o)
		row[i] = new(big.Rat).Sub(was, big.NewRat(1, 1))
		down := rough(row, s, w, order, o)
		row[i] = was
		if up.Cmp(down) != 0 || up.Cmp(least) < 0 {
			t.Fatalf("%s; %s; %d; %s: not the least at %d", frac.Words(seen), frac.Words(weights), order, often.Text(), i)
		}
	}
}

// DOC.md, 4: the graduated row is the least rough, of rows of all lengths, with fractions of all sizes.
func TestSmoothIsTheLeast(t *testing.T) {
	r := rand.New(rand.NewSource(6))
	draw := func(sizes int) frac.Frac {
		f, _ := frac.Of(r.Intn(2000)-1000, 1+r.Intn(90))
		if p, err := f.Pow(1 + r.Intn(sizes)); err == nil {
			return p
		}
		return f
	}
	for round := range 120 {
		order := 1 + r.Intn(4)
		n := order + 1 + r.Intn(12)
		if round%30 == 0 {
			n = api.MaxRows
		}
		seen, weights := make([]frac.Frac, n), make([]frac.Frac, n)
		for i := range n {
			seen[i], weights[i] = draw(3), draw(4)
			if weights[i].Sign() < 0 {
				weights[i] = frac.Frac{}
			}
		}
		often := draw(5)
		if often.Sign() < 0 {
			often = often.Neg()
		}
		v, err := table.Smooth(seen, weights, order, often)
		if err != nil {
			wantError(t, frac.Words(weights), err, api.ErrNone, noPlace, v)
			continue
		}
		wantLeast(t, v, seen, weights, order, often)
	}
}

// 2.4: a row whose differences are 0 is as smooth as can be, and stays.
func TestSmoothStays(t *testing.T) {
	for order := 1; order <= 4; order++ {
		var seen, weights []frac.Frac
		for i := range api.MaxRows {
			p, _ := frac.Whole(i - 7).Pow(order - 1)
			w, _ := frac.Of(i%3, 1+i%5)
			seen, weights = append(seen, p.Add(one(t, "1/3"))), append(weights, w)
		}
		if v := smoothed(t, seen, weights, order, one(t, "123/7")); frac.Words(v) != frac.Words(seen) {
			t.Errorf("order %d: %s became %s", order, frac.Words(seen), frac.Words(v))
		}
	}
}

// P4: what is handed in is not written into, and the answer is memory of its own.
func TestSmoothKeepsNothing(t *testing.T) {
	seen, weights := fracs(t, "1 3 2 5 8 9"), fracs(t, "1 1 1 1 6 7")
	often := frac.Whole(2)
	v := smoothed(t, seen[:4], weights[:4], 2, often)
	if frac.Words(seen) != "1 3 2 5 8 9" || frac.Words(weights) != "1 1 1 1 6 7" {
		t.Errorf("what was handed in became %s; %s", frac.Words(seen), frac.Words(weights))
	}
	same := smoothed(t, seen[:4], weights[:4], 2, frac.Frac{})
	v[0], same[0] = frac.Whole(99), frac.Whole(98)
	if again := smoothed(t, seen[:4], weights[:4], 2, often); frac.Words(again) != "17/15 11/5 16/5 67/15" {
		t.Errorf("asked again, it is %s", frac.Words(again))
	}
}
