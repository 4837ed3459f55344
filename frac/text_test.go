package frac_test

import (
	"fmt"
	"math/big"
	"strings"
	"testing"

	"tontine/api"
	"tontine/frac"
)

// 1.2: Text.
func TestText(t *testing.T) {
	for _, c := range []struct {
		f    frac.Frac
		text string
	}{
		{of(t, -3, 4), "-3/4"}, {of(t, 3, -4), "-3/4"}, {of(t, 30, 40), "3/4"}, {of(t, 4, 2), "2"}, {of(t, -4, 2), "-2"}, {of(t, 0, -9), "0"}, {of(t, 1, 1), "1"},
		{of(t, leastInt, 3), "-9223372036854775808/3"},
	} {
		if c.f.Text() != c.text {
			t.Errorf("%q, not %q", c.f.Text(), c.text)
		}
	}
	ten, _ := frac.Whole(10).Pow(199)
	if s := ten.Text(); s != "1"+strings.Repeat("0", 199) {
		t.Errorf("10^199: %s", s)
	}
	if s := div(t, frac.Whole(-3), ten).Text(); s != "-3/1"+strings.Repeat("0", 199) {
		t.Errorf("-3/10^199: %s", s)
	}
}

// 1.2: Round.
func TestRound(t *testing.T) {
	for _, c := range []struct{ f, unit, text string }{
		{"7/3", "1", "2"}, {"8/3", "1", "3"}, {"-7/3", "1", "-2"}, {"-8/3", "1", "-3"}, {"0", "7", "0"}, {"4", "1", "4"},
		{"1/2", "1", "0"}, {"3/2", "1", "2"}, {"5/2", "1", "2"}, {"7/2", "1", "4"}, {"-1/2", "1", "0"}, {"-3/2", "1", "-2"}, {"-5/2", "1", "-2"}, {"-7/2", "1", "-4"},
		{"5", "2", "4"}, {"7", "2", "8"}, {"3", "2", "4"}, {"1", "2", "0"}, {"-1", "2", "0"}, {"-3", "2", "-4"},
		{"5", "10", "0"}, {"15", "10", "20"}, {"25", "10", "20"}, {"26", "10", "30"}, {"-25", "10", "-20"}, {"-35", "10", "-40"},
		{"1/4", "1/2", "0"}, {"3/4", "1/2", "1"}, {"5/4", "1/2", "1"}, {"7/4", "1/2", "2"}, {"1/3", "1/7", "2/7"}, {"1/2", "1/3", "2/3"}, {"5/6", "1/3", "2/3"}, {"1/6", "1/3", "0"},
		{"100000000000000000000000001/2", "1", "50000000000000000000000000"}, {"100000000000000000000000003/2", "1", "50000000000000000000000002"}, {"-100000000000000000000000003/2", "1", "-50000000000000000000000002"},
		{"1", "100000000000000000000000000", "0"}, {"50000000000000000000000000", "100000000000000000000000000", "0"}, {"150000000000000000000000000", "100000000000000000000000000", "200000000000000000000000000"},
	} {
		r, err := read(t, c.f).Round(read(t, c.unit))
		if err != nil {
			t.Errorf("%s by %s: %v", c.f, c.unit, err)
		}
		want(t, c.f+" by "+c.unit, r, c.text)
	}
	for _, unit := range []string{"0", "-1", "-1/2", "-100000000000000000000000000"} {
		r, err := frac.Whole(3).Round(read(t, unit))
		wantError(t, "unit "+unit, err, api.ErrArg, r)
	}
}

// 1.2: what is rounded is a multiple, none is nearer, and of two as near it is the even one.
func TestRoundNearest(t *testing.T) {
	l := drawn(t, 4, 50)
	for _, f := range l {
		for _, unit := range l {
			if unit.Sign() <= 0 {
				continue
			}
			r, err := f.Round(unit)
			if err != nil {
				t.Fatal(err)
			}
			times := div(t, r, unit)
			if times.Floor().Cmp(times) != 0 {
				t.Fatalf("%s by %s: %s is no multiple", f.Text(), unit.Text(), r.Text())
			}
			off := div(t, f.Sub(r), unit).Mul(frac.Whole(2))
			half := times.Mul(of(t, 1, 2))
			if off.Cmp(frac.Whole(1)) > 0 || off.Cmp(frac.Whole(-1)) < 0 {
				t.Fatalf("%s by %s: %s is not the nearest", f.Text(), unit.Text(), r.Text())
			}
			if off.Mul(off).Cmp(frac.Whole(1)) == 0 && half.Floor().Cmp(half) != 0 {
				t.Fatalf("%s by %s: %s is odd", f.Text(), unit.Text(), r.Text())
			}
		}
	}
}

// 1.2: Decimal.
func TestDecimal(t *testing.T) {
	for _, c := range []struct {
		f      string
		places int
		text   string
	}{
		{"0", 0, "0"}, {"0", 3, "0.000"}, {"3", 0, "3"}, {"3", 2, "3.00"}, {"-3", 2, "-3.00"}, {"1/3", 4, "0.3333"}, {"2/3", 4, "0.6667"}, {"-2/3", 4, "-0.6667"}, {"1234/10", 1, "123.4"},
		{"1/2", 0, "0"}, {"3/2", 0, "2"}, {"5/2", 0, "2"}, {"-1/2", 0, "0"}, {"-3/2", 0, "-2"}, {"51/100", 0, "1"}, {"-51/100", 0, "-1"},
		{"125/1000", 2, "0.12"}, {"135/1000", 2, "0.14"}, {"-125/1000", 2, "-0.12"}, {"-135/1000", 2, "-0.14"}, {"5/1000", 2, "0.00"}, {"15/1000", 2, "0.02"},
		{"-5/1000", 2, "0.00"}, {"-4/1000", 2, "0.00"}, {"-6/1000", 2, "-0.01"}, {"-1/1000", 2, "0.00"}, {"-1/100", 2, "-0.01"}, {"1/100", 2, "0.01"}, {"1/10", 2, "0.10"},
		{"999/1000", 2, "1.00"}, {"-9999/1000", 2, "-10.00"}, {"995/100", 1, "10.0"}, {"985/100", 1, "9.8"},
		{"1/1000000000000000000", 18, "0.000000000000000001"}, {"-1/1000000000000000000", 18, "-0.000000000000000001"}, {"1/2000000000000000000", 18, "0.000000000000000000"}, {"3/2000000000000000000", 18, "0.000000000000000002"},
		{"1", 18, "1.000000000000000000"}, {"9223372036854775807", 18, "9223372036854775807.000000000000000000"}, {"-9223372036854775808", 1, "-9223372036854775808.0"},
		{"100000000000000000000000000000001/3", 18, "33333333333333333333333333333333.666666666666666667"}, {"100000000000000000000000000000001/2", 0, "50000000000000000000000000000000"},
	} {
		s, err := read(t, c.f).Decimal(c.places)
		if s != c.text || err != nil {
			t.Errorf("%s with %d places: %q, %v, not %q", c.f, c.places, s, err, c.text)
		}
	}
	for _, places := range []int{-1, api.MaxPlaces + 1, leastInt, greatestInt} {
		s, err := frac.Whole(3).Decimal(places)
		wantError(t, fmt.Sprint("places ", places), err, api.ErrRange, s)
	}
}

// 1.2: what Decimal writes is what Round tells, and is read again as it was.
func TestDecimalIsRound(t *testing.T) {
	for _, f := range drawn(t, 5, 60) {
		for places := range api.MaxPlaces + 1 {
			s, err := f.Decimal(places)
			if err != nil {
				t.Fatal(err)
			}
			unit, _ := frac.Whole(10).Pow(-places)
			r, err := f.Round(unit)
			if err != nil {
				t.Fatal(err)
			}
			got, ok := new(big.Rat).SetString(s)
			if !ok || got.Cmp(rat(t, r)) != 0 || strings.HasPrefix(s, "-") != (r.Sign() < 0) {
				t.Fatalf("%s with %d places: %q, rounded %s", f.Text(), places, s, r.Text())
			}
			_, behind, point := strings.Cut(s, ".")
			if len(behind) != places || point != (places > 0) {
				t.Fatalf("%s with %d places: %q", f.Text(), places, s)
			}
			if len(s) <= api.MaxDigits {
				again, err := frac.Parse(s)
				if err != nil || again.Cmp(r) != 0 {
					t.Fatalf("%q read again: %s, %v", s, again.Text(), err)
				}
			}
		}
	}
}

// 1.5: Words.
func TestWords(t *testing.T) {
	l := []frac.Frac{of(t, -3, 4), {}, frac.Whole(2), of(t, leastInt, 3)}
	for n, text := range []string{"", "-3/4", "-3/4 0", "-3/4 0 2", "-3/4 0 2 -9223372036854775808/3"} {
		if s := frac.Words(l[:n]); s != text {
			t.Errorf("%d words: %q, not %q", n, s, text)
		}
	}
	if s := frac.Words(nil); s != "" {
		t.Errorf("no words: %q", s)
	}
}
