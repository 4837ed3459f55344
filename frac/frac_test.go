package frac_test

import (
	"fmt"
	"math/big"
	"testing"

	"tontine/api"
	"tontine/frac"
)

// 1.1: Whole, Of.
func TestWholeAndOf(t *testing.T) {
	for _, n := range []int{0, 1, -1, 7, -12, leastInt, leastInt + 1, greatestInt} {
		want(t, "Whole", frac.Whole(n), fmt.Sprint(n))
	}
	for _, c := range []struct {
		over, under int
		text        string
	}{
		{3, 4, "3/4"}, {-3, 4, "-3/4"}, {3, -4, "-3/4"}, {-3, -4, "3/4"}, {6, 8, "3/4"}, {0, 5, "0"}, {0, -5, "0"}, {8, 4, "2"}, {8, -4, "-2"},
		{leastInt, leastInt, "1"}, {leastInt, -1, "9223372036854775808"}, {leastInt, 1, "-9223372036854775808"},
		{1, leastInt, "-1/9223372036854775808"}, {-1, leastInt, "1/9223372036854775808"}, {leastInt, 2, "-4611686018427387904"}, {0, leastInt, "0"},
		{greatestInt, greatestInt, "1"}, {greatestInt, leastInt, "-9223372036854775807/9223372036854775808"}, {leastInt, greatestInt, "-9223372036854775808/9223372036854775807"},
		{greatestInt, -1, "-9223372036854775807"}, {1, greatestInt, "1/9223372036854775807"},
	} {
		want(t, fmt.Sprint("Of ", c.over, " ", c.under), of(t, c.over, c.under), c.text)
	}
	for _, n := range []int{0, 3, leastInt} {
		f, err := frac.Of(n, 0)
		wantError(t, "Of nought", err, api.ErrZero, f)
	}
}

// 1.1: the zero value is 0.
func TestZeroValue(t *testing.T) {
	var z frac.Frac
	want(t, "zero value", z, "0")
	want(t, "sum", z.Add(z), "0")
	want(t, "sum", z.Add(frac.Whole(3)), "3")
	want(t, "sum", frac.Whole(3).Add(z), "3")
	want(t, "difference", z.Sub(of(t, 1, 3)), "-1/3")
	want(t, "product", z.Mul(of(t, -1, 3)), "0")
	want(t, "product", of(t, -1, 3).Mul(z), "0")
	want(t, "quotient", div(t, z, of(t, -1, 3)), "0")
	want(t, "Neg", z.Neg(), "0")
	want(t, "Floor", z.Floor(), "0")
	if z.Sign() != 0 || z.Cmp(z) != 0 || z.Cmp(frac.Whole(0)) != 0 || z.Cmp(of(t, 1, 9)) != -1 || z.Cmp(of(t, -1, 9)) != 1 {
		t.Error("the zero value is not told to be 0")
	}
	if n, ok := z.Int(); n != 0 || !ok {
		t.Errorf("Int: %d, %v", n, ok)
	}
	if s, err := z.Decimal(2); s != "0.00" || err != nil {
		t.Errorf("Decimal: %q, %v", s, err)
	}
	r, err := z.Round(frac.Whole(5))
	if err != nil {
		t.Error(err)
	}
	want(t, "Round", r, "0")
	_, err = frac.Whole(1).Div(z)
	wantError(t, "divided by the zero value", err, api.ErrZero)
}

// 1.1: sums, products, quotients, order, against the library, over all sizes; and nothing that was asked is changed.
func TestReckoning(t *testing.T) {
	l := drawn(t, 1, 90)
	texts := make([]string, len(l))
	for i, f := range l {
		texts[i] = f.Text()
	}
	for _, f := range l {
		a := rat(t, f)
		wantRat(t, "Neg", f.Neg(), new(big.Rat).Neg(a))
		wantRat(t, "Neg twice", f.Neg().Neg(), a)
		if f.Sign() != a.Sign() {
			t.Fatalf("%s: sign %d", f.Text(), f.Sign())
		}
		for _, g := range l {
			b := rat(t, g)
			wantRat(t, "Add", f.Add(g), new(big.Rat).Add(a, b))
			wantRat(t, "Sub", f.Sub(g), new(big.Rat).Sub(a, b))
			wantRat(t, "Mul", f.Mul(g), new(big.Rat).Mul(a, b))
			if f.Cmp(g) != a.Cmp(b) {
				t.Fatalf("%s and %s: %d", f.Text(), g.Text(), f.Cmp(g))
			}
			q, err := f.Div(g)
			if b.Sign() == 0 {
				wantError(t, "Div", err, api.ErrZero, q)
			} else {
				wantRat(t, "Div", q, new(big.Rat).Quo(a, b))
			}
		}
	}
	for i, f := range l {
		if f.Text() != texts[i] {
			t.Fatalf("%s became %s", texts[i], f.Text())
		}
	}
}

// Each value has one form, whichever way led to it: what comes back below a word's bounds is as what never was beyond.
func TestOneForm(t *testing.T) {
	big, _ := frac.Whole(7).Pow(100)
	for _, f := range drawn(t, 2, 60) {
		want(t, "there and back", f.Add(big).Sub(big), f.Text())
		want(t, "there and back", div(t, f.Mul(big), big), f.Text())
	}
	want(t, "nothing left", big.Sub(big), "0")
	want(t, "nothing left", big.Mul(frac.Whole(-1)).Add(big), "0")
	want(t, "nothing of it", big.Neg().Mul(frac.Frac{}), "0")
}

// 1.1: Pow.
func TestPow(t *testing.T) {
	for _, c := range []struct {
		f    frac.Frac
		n    int
		text string
	}{
		{of(t, 2, 3), 0, "1"}, {frac.Frac{}, 0, "1"}, {frac.Frac{}, 5, "0"}, {frac.Frac{}, api.MaxSize, "0"},
		{of(t, 2, 3), 3, "8/27"}, {of(t, -2, 3), 3, "-8/27"}, {of(t, -2, 3), 2, "4/9"}, {of(t, 2, 3), 1, "2/3"},
		{of(t, 2, 3), -3, "27/8"}, {of(t, -2, 3), -3, "-27/8"}, {of(t, -2, 3), -2, "9/4"}, {of(t, 1, 5), -1, "5"}, {frac.Whole(-5), -1, "-1/5"},
		{frac.Whole(-1), api.MaxSize, "1"}, {frac.Whole(-1), -api.MaxSize, "1"}, {frac.Whole(-1), api.MaxSize - 1, "-1"},
		{frac.Whole(leastInt), 2, "85070591730234615865843651857942052864"},
	} {
		p, err := c.f.Pow(c.n)
		if err != nil {
			t.Errorf("%s to the power of %d: %v", c.f.Text(), c.n, err)
		}
		want(t, fmt.Sprint(c.f.Text(), " to the power of ", c.n), p, c.text)
	}
}

// 1.1: Pow at its bounds, and beyond them; ErrLimit is told ahead of ErrZero.
func TestPowBounds(t *testing.T) {
	f := of(t, -7, 10)
	up, err := f.Pow(api.MaxSize)
	if err != nil {
		t.Fatal(err)
	}
	down, err := f.Pow(-api.MaxSize)
	if err != nil {
		t.Fatal(err)
	}
	seven := new(big.Int).Exp(big.NewInt(7), big.NewInt(api.MaxSize), nil)
	ten := new(big.Int).Exp(big.NewInt(10), big.NewInt(api.MaxSize), nil)
	wantRat(t, "the greatest power", up, new(big.Rat).SetFrac(seven, ten))
	wantRat(t, "the least power", down, new(big.Rat).SetFrac(ten, seven))
	for _, n := range []int{api.MaxSize + 1, -api.MaxSize - 1, leastInt, greatestInt} {
		p, err := f.Pow(n)
		wantError(t, fmt.Sprint("power ", n), err, api.ErrLimit, p)
		p, err = frac.Frac{}.Pow(n)
		wantError(t, fmt.Sprint("power ", n, " of 0"), err, api.ErrLimit, p)
	}
	for _, n := range []int{-1, -2, -api.MaxSize} {
		p, err := frac.Frac{}.Pow(n)
		wantError(t, fmt.Sprint("power ", n, " of 0"), err, api.ErrZero, p)
	}
}

// 1.1: fractions of any size: a power of a power, back by dividing.
func TestAnySize(t *testing.T) {
	f, _ := of(t, 123456789, 1000000007).Pow(50)
	f, err := f.Pow(40)
	if err != nil {
		t.Fatal(err)
	}
	over := new(big.Int).Exp(big.NewInt(123456789), big.NewInt(2000), nil)
	under := new(big.Int).Exp(big.NewInt(1000000007), big.NewInt(2000), nil)
	r := new(big.Rat).SetFrac(over, under)
	wantRat(t, "power of a power", f, r)
	third := of(t, 1, 3)
	wantRat(t, "sum", f.Add(third), new(big.Rat).Add(r, big.NewRat(1, 3)))
	want(t, "back", f.Add(third).Sub(f), "1/3")
	want(t, "quotient", div(t, f.Mul(third), f), "1/3")
	if f.Cmp(f.Add(div(t, third, frac.Whole(leastInt)))) != 1 || f.Cmp(f) != 0 || f.Cmp(third) != -1 {
		t.Error("long fractions are not in order")
	}
}

// 1.1: Int.
func TestInt(t *testing.T) {
	two63, _ := frac.Whole(2).Pow(63)
	two64 := two63.Add(two63)
	for _, c := range []struct {
		f  frac.Frac
		n  int
		ok bool
	}{
		{frac.Whole(0), 0, true}, {frac.Whole(5), 5, true}, {frac.Whole(-5), -5, true}, {of(t, 10, 5), 2, true},
		{frac.Whole(greatestInt), greatestInt, true}, {frac.Whole(leastInt), leastInt, true}, {two63.Neg(), leastInt, true}, {two63.Sub(frac.Whole(1)), greatestInt, true},
		{two63, 0, false}, {two63.Neg().Sub(frac.Whole(1)), 0, false}, {two64, 0, false}, {two64.Neg(), 0, false}, {two64.Add(frac.Whole(7)), 0, false},
		{of(t, 1, 2), 0, false}, {of(t, -7, 2), 0, false}, {of(t, leastInt, greatestInt), 0, false}, {two64.Add(of(t, 1, 2)), 0, false},
	} {
		if n, ok := c.f.Int(); n != c.n || ok != c.ok {
			t.Errorf("Int of %s: %d, %v", c.f.Text(), n, ok)
		}
	}
}

// 1.1: Floor.
func TestFloor(t *testing.T) {
	for _, c := range []struct{ f, text string }{
		{"7/2", "3"}, {"-7/2", "-4"}, {"3", "3"}, {"-3", "-3"}, {"1/9", "0"}, {"-1/9", "-1"}, {"0", "0"},
		{"-9223372036854775808", "-9223372036854775808"}, {"-18446744073709551615/2", "-9223372036854775808"}, {"18446744073709551615/2", "9223372036854775807"},
		{"100000000000000000000000001/10", "10000000000000000000000000"}, {"-100000000000000000000000001/10", "-10000000000000000000000001"},
		{"1/100000000000000000000000001", "0"}, {"-1/100000000000000000000000001", "-1"}, {"-100000000000000000000000001", "-100000000000000000000000001"},
	} {
		want(t, "Floor of "+c.f, read(t, c.f).Floor(), c.text)
	}
	for _, f := range drawn(t, 3, 80) {
		low := f.Floor()
		if low.Floor().Cmp(low) != 0 || low.Cmp(f) > 0 || low.Add(frac.Whole(1)).Cmp(f) <= 0 {
			t.Errorf("Floor of %s: %s", f.Text(), low.Text())
		}
	}
}
