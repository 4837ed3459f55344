package frac_test

import (
	"fmt"
	"math/big"
	"testing"

	"tontine/api"
	"tontine/frac"
)

// 1.4: Near, by hand: fractions that are reached, ties, bounds.
func TestNear(t *testing.T) {
	for _, c := range []struct {
		f    string
		most int
		text string
	}{
		{"314159265358979/100000000000000", 1000, "355/113"}, {"314159265358979/100000000000000", 112, "333/106"}, {"314159265358979/100000000000000", 105, "311/99"}, {"314159265358979/100000000000000", 7, "22/7"}, {"314159265358979/100000000000000", 1, "3"},
		{"-314159265358979/100000000000000", 1000, "-355/113"}, {"-314159265358979/100000000000000", 1, "-3"},
		{"0", 1, "0"}, {"5", 1, "5"}, {"-5", 1000000, "-5"}, {"3/4", 4, "3/4"}, {"3/4", 1000000, "3/4"}, {"-3/4", 4, "-3/4"}, {"1/1000000", 1000000, "1/1000000"},
		{"1/2", 1, "0"}, {"3/2", 1, "1"}, {"-1/2", 1, "-1"}, {"-3/2", 1, "-2"}, {"5/2", 1, "2"},
		{"1/4", 2, "0"}, {"3/4", 2, "1"}, {"-1/4", 2, "0"}, {"-3/4", 2, "-1"}, {"5/12", 3, "1/2"}, {"1/6", 3, "0"}, {"-5/12", 3, "-1/2"},
		{"1/1000001", 1000000, "1/1000000"}, {"1/1999999", 1000000, "1/1000000"}, {"1/2000000", 1000000, "0"}, {"1/2000001", 1000000, "0"}, {"-1/2000000", 1000000, "0"}, {"-1/1999999", 1000000, "-1/1000000"},
		{"1999999/2000000", 1000000, "1"}, {"1000000/1000001", 1000000, "999999/1000000"},
		{"100000000000000000000000000000000000000001/2", 1, "50000000000000000000000000000000000000000"}, {"-100000000000000000000000000000000000000001/2", 1, "-50000000000000000000000000000000000000001"},
		{"300000000000000000000000000000000000000001/3", 2, "200000000000000000000000000000000000000001/2"}, {"1/300000000000000000000000000000000000000001", 1000000, "0"},
		{"10000000000000000000000000000000000000/30000000000000000000000000000000000001", 1000000, "1/3"}, {"6180339887498948482045868343656381177203/10000000000000000000000000000000000000000", 1000000, "514229/832040"},
	} {
		f, err := frac.Near(read(t, c.f), c.most)
		if err != nil {
			t.Errorf("near %s, %d: %v", c.f, c.most, err)
		}
		want(t, fmt.Sprint("near ", c.f, ", ", c.most), f, c.text)
	}
}

// 1.4: the errors.
func TestNearRange(t *testing.T) {
	for _, most := range []int{0, -1, 1000001, leastInt, greatestInt} {
		f, err := frac.Near(of(t, 1, 3), most)
		wantError(t, fmt.Sprint("most ", most), err, api.ErrRange, f)
	}
}

// nearest looks at all fractions about f, lower number by lower number, so that the first of two as near stays.
func nearest(f *big.Rat, most int) *big.Rat {
	var best, off *big.Rat
	for under := 1; under <= most; under++ {
		scaled := new(big.Rat).Mul(f, big.NewRat(int64(under), 1))
		low := new(big.Int).Div(scaled.Num(), scaled.Denom())
		for range 2 {
			x := new(big.Rat).SetFrac(low, big.NewInt(int64(under)))
			d := new(big.Rat).Sub(x, f)
			d.Abs(d)
			if best == nil || d.Cmp(off) < 0 {
				best, off = x, d
			}
			low = new(big.Int).Add(low, big.NewInt(1))
		}
	}
	return best
}

// 1.4: Near, against all fractions that there are.
func TestNearOfAll(t *testing.T) {
	var l []frac.Frac
	for over := -40; over <= 40; over++ {
		for under := 1; under <= 24; under++ {
			l = append(l, of(t, over, under))
		}
	}
	for _, f := range append(l, drawn(t, 8, 60)...) {
		for _, most := range []int{1, 2, 3, 4, 5, 7, 8, 12, 23} {
			got, err := frac.Near(f, most)
			if err != nil {
				t.Fatal(err)
			}
			wantRat(t, fmt.Sprint("near ", f.Text(), ", ", most), got, nearest(rat(t, f), most))
		}
	}
}
