package triangle_test

import (
	"math/big"
	"math/rand"
	"testing"

	"tontine/api"
	"tontine/triangle"
)

// 14.3: by hand. The last spread is 0 where there are not two ahead, and else the least of three, whichever that is.
func TestSpreads(t *testing.T) {
	for _, c := range []struct{ what, t, spreads string }{
		{"one year of growing", "3 4 / 5", "0"},
		{"two", "100 150 165 / 110 160 / 120", "25/231 0"},
		{"two, and a spread that is not a whole number", "1 1 5 / 1 3 / 1", "2 0"},
		{"the nearer one on, b^2 / a, is the least", "1 2 4 9 / 1 4 6 / 1 6 / 9", "4 1/3 1/36"},
		{"all alike", "1 2 2 9 / 1 4 8 / 1 3 / 9", "1 4/3 1"},
		{"a is 0", "1 2 2 9 / 1 2 4 / 1 2 / 9", "0 1 0"},
		{"b is 0", "1 2 4 9 / 1 4 8 / 1 6 / 9", "4 0 0"},
		{"a and b are 0", "1 2 4 9 / 1 2 4 / 1 2 / 9", "0 0 0"},
		{"the two nearest, not those at first", "1 2 2 2 7 / 1 4 4 4 / 1 2 3 / 1 4 / 9", "4/3 3/16 0 0"},
	} {
		spreads, err := triangle.Spreads(of(t, c.t))
		want(t, c.what, spreads, err, c.spreads)
	}
}

// 14.3: what is not divided by 0: a number of a row, unless it is of the last year of growing, or of a row that has not grown yet.
func TestSpreadsZero(t *testing.T) {
	for _, text := range []string{"0 1 2 / 3 4 / 5", "1 2 3 / 0 4 / 5", "1 2 3 4 / 1 0 3 / 1 2 / 1", "1 0 3 4 / 1 2 3 / 1 2 / 1", "1 2 3 4 / 1 2 3 / 0 2 / 1"} {
		for name, ask := range asks() {
			if name == "Spreads" || name == "Amiss" {
				l, err := ask(of(t, text))
				wantError(t, name+" of "+text, err, api.ErrZero, l)
			} else if _, err := ask(of(t, text)); err != nil {
				t.Errorf("%s of %s: %v", name, text, err)
			}
		}
	}
	for _, text := range []string{"1 2 3 / 1 0 / 0", "1 2 3 / 1 2 / 0", "1 0 / 1", "1 2 3 0 / 1 2 0 / 1 0 / 0"} {
		if _, err := triangle.Spreads(of(t, text)); err != nil {
			t.Errorf("Spreads of %s: %v", text, err)
		}
	}
}

// 14.4: by hand.
func TestAmissByHand(t *testing.T) {
	for _, c := range []struct{ t, amiss string }{
		{"3 4 / 5", "0 0"},
		{"100 150 165 / 110 160 / 120", "0 0 1210/49"},
		{"1 1 5 / 1 3 / 1", "0 0 75"},
		{"1 2 4 9 / 1 2 4 / 1 2 / 1", "0 0 0 0"},
	} {
		l, err := triangle.Amiss(of(t, c.t))
		want(t, c.t, l, err, c.amiss)
	}
}

// 14.4: where there is to be divided by 0: by a factor, by what is there of a row, or has grown to 0; also where the spread is 0, too.
func TestAmissZero(t *testing.T) {
	for _, text := range []string{"1 0 / 1", "1 2 / 0", "1 2 3 / 1 2 / 0", "1 2 3 / 1 0 / 1", "1 2 0 / 1 2 / 1", "1 2 3 4 / 1 2 3 / 1 0 / 1"} {
		if _, err := triangle.Spreads(of(t, text)); err != nil {
			t.Errorf("Spreads of %s: %v", text, err)
		}
		l, err := triangle.Amiss(of(t, text))
		wantError(t, "Amiss of "+text, err, api.ErrZero, l)
	}
}

// spreadsOf are the spreads by the document's words; nil, if there are none.
func spreadsOf(x triangle.Triangle, factors []*big.Rat) []*big.Rat {
	n := len(x)
	var out []*big.Rat
	for k := 0; k <= n-3; k++ {
		all := new(big.Rat)
		for i := 0; i <= n-2-k; i++ {
			c := whole(x[i][k])
			g, ok := quo(whole(x[i][k+1]), c)
			if !ok {
				return nil
			}
			all = add(all, mul(c, mul(sub(g, factors[k]), sub(g, factors[k]))))
		}
		spread, _ := quo(all, whole(n-2-k))
		out = append(out, spread)
	}
	least := new(big.Rat)
	if len(out) >= 2 {
		a, b := out[len(out)-2], out[len(out)-1]
		on, ok := quo(mul(b, b), a)
		if !ok {
			on = new(big.Rat)
		}
		least = a
		for _, other := range []*big.Rat{b, on} {
			if other.Cmp(least) < 0 {
				least = other
			}
		}
	}
	return append(out, least)
}

// amissOf is what is told amiss, likewise.
func amissOf(x triangle.Triangle, factors, spreads []*big.Rat) []*big.Rat {
	n := len(x)
	var out []*big.Rat
	for i, row := range squareOf(x, factors) {
		all := new(big.Rat)
		for k := n - 1 - i; k <= n-2; k++ {
			s := new(big.Rat)
			for j := 0; j <= n-2-k; j++ {
				s = add(s, whole(x[j][k]))
			}
			part, ok := quo(spreads[k], mul(factors[k], factors[k]))
			own, ok2 := quo(whole(1), row[k])
			found, ok3 := quo(whole(1), s)
			if !ok || !ok2 || !ok3 {
				return nil
			}
			all = add(all, mul(part, add(own, found)))
		}
		out = append(out, mul(mul(row[n-1], row[n-1]), all))
	}
	return out
}

// 14.3, 14.4: drawn triangles, by the document's words.
func TestAmissDrawn(t *testing.T) {
	r := rand.New(rand.NewSource(2))
	told := 0
	for i := range 800 {
		x := drawnTriangle(r, 2+r.Intn(6), []int{3, 10, 100, api.MaxUnits + 1}[i%4])
		if i%200 == 0 {
			x = drawnTriangle(r, mostRows, api.MaxUnits+1)
		}
		factors := factorsOf(x)
		var wantedSpreads, wantedAmiss []*big.Rat
		if factors != nil {
			wantedSpreads = spreadsOf(x, factors)
		}
		if wantedSpreads != nil {
			wantedAmiss = amissOf(x, factors, wantedSpreads)
		}
		spreads, err := triangle.Spreads(x)
		wantRats(t, "Spreads", spreads, err, wantedSpreads)
		amiss, err := triangle.Amiss(x)
		wantRats(t, "Amiss", amiss, err, wantedAmiss)
		if wantedAmiss != nil {
			told++
		}
	}
	if told < 300 {
		t.Errorf("only %d triangles tell something", told)
	}
}

// 14.4: what Mack himself found for the triangle of Taylor and Ashe: reserves, and the roots of what they tell amiss, rounded.
func TestMack(t *testing.T) {
	x := of(t, `357848 1124788 1735330 2218270 2745596 3319994 3466336 3606286 3833515 3901463
		/ 352118 1236139 2170033 3353322 3799067 4120063 4647867 4914039 5339085
		/ 290507 1292306 2218525 3235179 3985995 4132918 4628910 4909315
		/ 310608 1418858 2195047 3757447 4029929 4381982 4588268
		/ 443160 1136350 2128333 2897821 3402672 3873311
		/ 396132 1333217 2180715 2985752 3691712
		/ 440832 1288463 2419861 3483130
		/ 359480 1421128 2864498
		/ 376686 1363294
		/ 344014`)
	reserves, err := triangle.Reserves(x)
	if err != nil {
		t.Fatal(err)
	}
	amiss, err := triangle.Amiss(x)
	if err != nil {
		t.Fatal(err)
	}
	wantedReserves := []string{"0", "94634", "469511", "709638", "984889", "1419459", "2177641", "3920301", "4278972", "4625811"}
	wantedRoots := []string{"0", "75535", "121699", "133549", "261406", "411010", "558317", "875328", "971258", "1363155"}
	for i := range x {
		if got, err := reserves[i].Decimal(0); err != nil || got != wantedReserves[i] {
			t.Errorf("reserve %d: %s, %v", i, got, err)
		}
		square := new(big.Float).SetPrec(200).SetRat(rat(t, amiss[i]))
		if got := new(big.Float).Sqrt(square).Text('f', 0); got != wantedRoots[i] {
			t.Errorf("amiss %d: %s", i, got)
		}
	}
}
