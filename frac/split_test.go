package frac_test

import (
	"fmt"
	"math/big"
	"math/rand"
	"slices"
	"testing"

	"tontine/api"
	"tontine/frac"
)

// weights are those of texts.
func weights(t *testing.T, texts ...string) []frac.Frac {
	t.Helper()
	l := make([]frac.Frac, len(texts))
	for i, s := range texts {
		l[i] = read(t, s)
	}
	return l
}

// 1.6: Split, by hand.
func TestSplit(t *testing.T) {
	for _, c := range []struct {
		units   int
		weights []frac.Frac
		shares  []int
	}{
		{100, weights(t, "1", "1", "1"), []int{34, 33, 33}}, {101, weights(t, "1", "1", "1"), []int{34, 34, 33}}, {99, weights(t, "1", "1", "1"), []int{33, 33, 33}},
		{0, weights(t, "1", "2"), []int{0, 0}}, {1, weights(t, "1", "1"), []int{1, 0}}, {1, weights(t, "1", "2"), []int{0, 1}}, {7, weights(t, "5"), []int{7}}, {7, weights(t, "0", "5", "0"), []int{0, 7, 0}},
		{1, weights(t, "0", "1", "0", "1"), []int{0, 1, 0, 0}}, {3, weights(t, "1", "1", "1", "1"), []int{1, 1, 1, 0}},
		// 1/2 is cut off of both, though their shares are unlike
		{2, weights(t, "1", "3"), []int{1, 1}}, {2, weights(t, "3", "1"), []int{2, 0}}, {10, weights(t, "1", "3", "1"), []int{2, 6, 2}}, {3, weights(t, "1", "5", "3", "1", "2"), []int{0, 1, 1, 0, 1}},
		// two halves are cut off, and one of them is given back
		{4, weights(t, "1", "3/2", "3/2", "0"), []int{1, 2, 1, 0}}, {8, weights(t, "5", "7", "4"), []int{3, 3, 2}}, {8, weights(t, "7", "5", "4"), []int{4, 2, 2}},
		{10, weights(t, "1/2", "1/3", "1/6"), []int{5, 3, 2}}, {10, weights(t, "1/7", "2/7", "4/7"), []int{1, 3, 6}},
		{1000000, weights(t, "1", "100000000000000000000000000000"), []int{0, 1000000}}, {3, weights(t, "1/100000000000000000000000000000", "1/100000000000000000000000000000"), []int{2, 1}},
		{api.MaxUnits, weights(t, "1", "1", "1"), []int{333333333333334, 333333333333333, 333333333333333}}, {api.MaxUnits, weights(t, "3"), []int{api.MaxUnits}},
	} {
		shares, err := frac.Split(c.units, c.weights)
		if err != nil || !slices.Equal(shares, c.shares) {
			t.Errorf("%d by %s: %v, %v, not %v", c.units, frac.Words(c.weights), shares, err, c.shares)
		}
	}
}

// 1.6: each error, in the order in which they are told.
func TestSplitErrors(t *testing.T) {
	ones := slices.Repeat(weights(t, "1"), api.MaxText+1)
	bad := slices.Repeat(weights(t, "-1"), api.MaxText+1)
	for _, c := range []struct {
		units   int
		weights []frac.Frac
		e       api.Errno
	}{
		{-1, weights(t, "1"), api.ErrRange}, {api.MaxUnits + 1, weights(t, "1"), api.ErrRange}, {leastInt, weights(t, "1"), api.ErrRange}, {greatestInt, weights(t, "1"), api.ErrRange}, {10, ones, api.ErrRange},
		{-1, weights(t, "-1"), api.ErrRange}, {-1, nil, api.ErrRange}, {10, bad, api.ErrRange},
		{10, weights(t, "-1"), api.ErrArg}, {10, weights(t, "1", "2", "-1/2"), api.ErrArg}, {10, weights(t, "1", "-1"), api.ErrArg}, {0, weights(t, "0", "-1"), api.ErrArg}, {10, weights(t, "-1/100000000000000000000000000000"), api.ErrArg},
		{10, nil, api.ErrZero}, {10, weights(t), api.ErrZero}, {0, nil, api.ErrZero}, {10, weights(t, "0", "0"), api.ErrZero}, {10, make([]frac.Frac, 5), api.ErrZero},
	} {
		shares, err := frac.Split(c.units, c.weights)
		wantError(t, fmt.Sprintf("%d by %d weights", c.units, len(c.weights)), err, c.e, shares)
	}
}

// 1.6: as many weights as there may be.
func TestSplitMost(t *testing.T) {
	l := slices.Repeat(weights(t, "1"), api.MaxText)
	shares, err := frac.Split(3*api.MaxText+7, l)
	if err != nil {
		t.Fatal(err)
	}
	for i, n := range shares {
		if i < 7 && n != 4 || i >= 7 && n != 3 {
			t.Fatalf("the %d-th: %d", i, n)
		}
	}
	for i := range l {
		l[i] = of(t, i%97, 1+i%11)
	}
	shares, err = frac.Split(api.MaxUnits, l)
	sum := 0
	for _, n := range shares {
		sum += n
	}
	if err != nil || len(shares) != api.MaxText || sum != api.MaxUnits {
		t.Fatalf("%d shares, %d together, %v", len(shares), sum, err)
	}
}

// parted is Split as the document tells it, by the library.
func parted(units int, weights []*big.Rat) []int {
	all := new(big.Rat)
	for _, w := range weights {
		all.Add(all, w)
	}
	shares, cut := make([]int, len(weights)), make([]*big.Rat, len(weights))
	left := units
	for i, w := range weights {
		share := new(big.Rat).Quo(new(big.Rat).Mul(w, new(big.Rat).SetInt64(int64(units))), all)
		low := new(big.Int).Div(share.Num(), share.Denom())
		shares[i] = int(low.Int64())
		cut[i] = share.Sub(share, new(big.Rat).SetInt(low))
		left -= shares[i]
	}
	for range left {
		best := 0
		for i := range cut {
			if cut[i].Cmp(cut[best]) > 0 {
				best = i
			}
		}
		shares[best]++
		cut[best] = big.NewRat(-1, 1)
	}
	return shares
}

// 1.6: Split against the library; all units are given out; the weights stay as they were.
func TestSplitOfAll(t *testing.T) {
	r := rand.New(rand.NewSource(9))
	long := drawn(t, 10, 120)
	for round := range 1500 {
		var l []frac.Frac
		for range 1 + r.Intn(9) {
			f := of(t, r.Intn(7), 1+r.Intn(4))
			if round%5 == 0 {
				f = long[r.Intn(len(long))]
				f = f.Mul(f)
			}
			l = append(l, f)
		}
		units := r.Intn(40)
		if round%7 == 0 {
			units = r.Intn(api.MaxUnits + 1)
		}
		words := frac.Words(l)
		shares, err := frac.Split(units, l)
		if frac.Words(l) != words {
			t.Fatalf("%s became %s", words, frac.Words(l))
		}
		var rats []*big.Rat
		sum := frac.Frac{}
		for _, f := range l {
			rats = append(rats, rat(t, f))
			sum = sum.Add(f)
		}
		if sum.Sign() == 0 {
			wantError(t, words, err, api.ErrZero, shares)
			continue
		}
		given := 0
		for _, n := range shares {
			given += n
		}
		if asked := parted(units, rats); err != nil || !slices.Equal(shares, asked) || given != units {
			t.Fatalf("%d by %s: %v, %v, not %v", units, words, shares, err, asked)
		}
	}
}

// 1.6: weights that are long together: shares that are cut off, and such as come out even.
func TestSplitLong(t *testing.T) {
	var l []frac.Frac
	var rats []*big.Rat
	for i := range 400 {
		l = append(l, of(t, 1+i%5, 1+i))
		rats = append(rats, rat(t, l[i]))
	}
	for _, units := range []int{0, 1, 399, 12345, api.MaxUnits} {
		shares, err := frac.Split(units, l)
		if err != nil || !slices.Equal(shares, parted(units, rats)) {
			t.Errorf("%d by long weights: %v, %v", units, shares, err)
		}
	}
	long, _ := of(t, leastInt, 3).Pow(100)
	even := []frac.Frac{long, {}, long.Mul(frac.Whole(3)), long}
	for units, asked := range map[int][]int{10: {2, 0, 6, 2}, 11: {2, 0, 7, 2}, 12: {3, 0, 7, 2}, 14: {3, 0, 8, 3}} {
		shares, err := frac.Split(units, even)
		if err != nil || !slices.Equal(shares, asked) {
			t.Errorf("%d by long weights: %v, %v, not %v", units, shares, err, asked)
		}
	}
}
