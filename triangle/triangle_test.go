package triangle_test

import (
	"math/big"
	"math/rand"
	"reflect"
	"testing"

	"tontine/api"
	"tontine/frac"
	"tontine/triangle"
)

// 14.2: the document's example.
func TestExample(t *testing.T) {
	x := of(t, "100 150 165 / 110 160 / 120")
	reserves, err := triangle.Reserves(x)
	want(t, "Reserves", reserves, err, "0 16 524/7")
	factors, err := triangle.Factors(x)
	want(t, "Factors", factors, err, "31/21 11/10")
	square, err := triangle.Complete(x)
	if got := rows(square); err != nil || got != "100 150 165 | 110 160 176 | 120 1240/7 1364/7" {
		t.Errorf("Complete: %s, %v", got, err)
	}
}

// 14.1: what is said of triangles that may not be, in its order; by all that ask Check.
func TestAmissTriangles(t *testing.T) {
	for _, c := range amissTriangles(t) {
		wantError(t, "Check: "+c.what, triangle.Check(c.t), c.e)
		for name, ask := range asks() {
			l, err := ask(c.t)
			wantError(t, name+": "+c.what, err, c.e, l)
		}
		square, err := triangle.Complete(c.t)
		wantError(t, "Complete: "+c.what, err, c.e, square)
		text, err := triangle.Text(c.t)
		wantError(t, "Text: "+c.what, err, c.e, text)
	}
}

// asks are the functions that answer a row.
func asks() map[string]func(triangle.Triangle) ([]frac.Frac, error) {
	return map[string]func(triangle.Triangle) ([]frac.Frac, error){
		"Factors":  triangle.Factors,
		"Reserves": triangle.Reserves,
		"Spreads":  triangle.Spreads,
		"Amiss":    triangle.Amiss,
	}
}

// 14.1: triangles at the edges may be, and so may such as grow less, or not at all.
func TestGood(t *testing.T) {
	for _, x := range []triangle.Triangle{full(2, 0), full(2, api.MaxUnits), full(mostRows, 0), full(mostRows, api.MaxUnits), of(t, "0 1 / 0"), of(t, "3 2 1 / 5 4 / 9")} {
		if err := triangle.Check(x); err != nil {
			t.Errorf("%v: %v", x, err)
		}
	}
}

// 14.2: by hand.
func TestByHand(t *testing.T) {
	for _, c := range []struct{ t, factors, square, reserves string }{
		{"3 4 / 5", "4/3", "3 4 | 5 20/3", "0 5/3"},
		{"3 0 / 5", "0", "3 0 | 5 0", "0 -5"},
		{"3 2 / 0", "2/3", "3 2 | 0 0", "0 0"},
		{"0 6 9 / 4 6 / 7", "3 3/2", "0 6 9 | 4 6 9 | 7 21 63/2", "0 3 49/2"},
		{"6 3 1 / 2 1 / 8", "1/2 1/3", "6 3 1 | 2 1 1/3 | 8 4 4/3", "0 -2/3 -20/3"},
		{"1 2 3 4 / 1 2 3 / 1 2 / 1", "2 3/2 4/3", "1 2 3 4 | 1 2 3 4 | 1 2 3 4 | 1 2 3 4", "0 1 2 3"},
	} {
		x := of(t, c.t)
		factors, err := triangle.Factors(x)
		want(t, "Factors of "+c.t, factors, err, c.factors)
		square, err := triangle.Complete(x)
		if got := rows(square); err != nil || got != c.square {
			t.Errorf("Complete of %s: %s, %v", c.t, got, err)
		}
		reserves, err := triangle.Reserves(x)
		want(t, "Reserves of "+c.t, reserves, err, c.reserves)
	}
}

// 14.2: a factor is not divided by 0, whichever it is; what has grown to 0 elsewhere is no harm.
func TestFactorsZero(t *testing.T) {
	for _, text := range []string{"0 1 / 2", "0 0 / 0", "0 1 2 / 0 1 / 5", "1 0 2 / 1 5 / 3", "1 2 0 4 / 1 2 3 / 1 2 / 1"} {
		for name, ask := range asks() {
			l, err := ask(of(t, text))
			wantError(t, name+" of "+text, err, api.ErrZero, l)
		}
		square, err := triangle.Complete(of(t, text))
		wantError(t, "Complete of "+text, err, api.ErrZero, square)
	}
	factors, err := triangle.Factors(of(t, "1 2 0 / 0 0 / 0"))
	want(t, "Factors", factors, err, "2 0")
}

// 14.2: the greatest triangle.
func TestMost(t *testing.T) {
	x := full(mostRows, api.MaxUnits)
	factors, err := triangle.Factors(x)
	want(t, "Factors", factors, err, "1 1 1 1 1 1 1 1 1 1 1 1 1 1 1 1 1 1 1")
	reserves, err := triangle.Reserves(x)
	want(t, "Reserves", reserves, err, "0 0 0 0 0 0 0 0 0 0 0 0 0 0 0 0 0 0 0 0")
	for i := range x {
		x[i][0] = 1
	}
	reserves, err = triangle.Reserves(x)
	want(t, "Reserves", reserves, err, "0 0 0 0 0 0 0 0 0 0 0 0 0 0 0 0 0 0 0 999999999999999")
}

// factorsOf are the factors by the document's words; nil, if there are none.
func factorsOf(x triangle.Triangle) []*big.Rat {
	n := len(x)
	var out []*big.Rat
	for k := 0; k <= n-2; k++ {
		over, under := new(big.Rat), new(big.Rat)
		for i := 0; i <= n-2-k; i++ {
			over = add(over, whole(x[i][k+1]))
			under = add(under, whole(x[i][k]))
		}
		f, ok := quo(over, under)
		if !ok {
			return nil
		}
		out = append(out, f)
	}
	return out
}

// squareOf is what a triangle is made to, likewise.
func squareOf(x triangle.Triangle, factors []*big.Rat) [][]*big.Rat {
	var out [][]*big.Rat
	for i := range x {
		var row []*big.Rat
		for k := range x {
			if k < len(x)-i {
				row = append(row, whole(x[i][k]))
			} else {
				row = append(row, mul(row[k-1], factors[k-1]))
			}
		}
		out = append(out, row)
	}
	return out
}

// 14.2: drawn triangles, by the document's words.
func TestDrawn(t *testing.T) {
	r := rand.New(rand.NewSource(1))
	for i := range 600 {
		x := drawnTriangle(r, 2+r.Intn(6), []int{3, 10, 100, api.MaxUnits + 1}[i%4])
		if i%50 == 0 {
			x = drawnTriangle(r, mostRows, api.MaxUnits+1)
		}
		wanted := factorsOf(x)
		factors, err := triangle.Factors(x)
		wantRats(t, "Factors", factors, err, wanted)
		square, err := triangle.Complete(x)
		reserves, err2 := triangle.Reserves(x)
		if wanted == nil {
			wantError(t, "Complete", err, api.ErrZero, square)
			wantError(t, "Reserves", err2, api.ErrZero, reserves)
			continue
		}
		var left []*big.Rat
		for i, row := range squareOf(x, wanted) {
			wantRats(t, "Complete", square[i], err, row)
			left = append(left, sub(row[len(row)-1], whole(x[i][len(x[i])-1])))
		}
		wantRats(t, "Reserves", reserves, err2, left)
	}
}

// P4: nothing that is handed in is written into, nor what stands behind it; no two lists of an answer share memory; each call tells the same.
func TestMemory(t *testing.T) {
	x := of(t, "100 150 165 7 / 110 160 7 / 120 7 / 7")
	longer := of(t, "100 150 165 7 / 110 160 7 / 120 7 / 7")
	part := triangle.Triangle{x[0][:3], x[1][:2], x[2][:1], x[3]}[:3]
	for range 2 {
		square, err := triangle.Complete(part)
		if got := rows(square); err != nil || got != "100 150 165 | 110 160 176 | 120 1240/7 1364/7" {
			t.Fatalf("%s, %v", got, err)
		}
		for i, row := range square {
			for k := range append(row, frac.Whole(-1)) {
				if k < len(row) {
					row[k] = frac.Whole(-1)
				}
			}
			if i+1 < len(square) && square[i+1][0].Cmp(frac.Whole(x[i+1][0])) != 0 {
				t.Error("two rows share memory")
			}
		}
		for name, ask := range asks() {
			l, err := ask(part)
			if err != nil {
				t.Errorf("%s: %v", name, err)
			}
			told := frac.Words(l)
			for k := range l {
				l[k] = frac.Whole(-1)
			}
			if l, err = ask(part); err != nil || frac.Words(l) != told {
				t.Errorf("%s: %s, not %s", name, frac.Words(l), told)
			}
		}
		if text, err := triangle.Text(part); err != nil || text != "100 150 165\n110 160\n120\n" {
			t.Errorf("%q, %v", text, err)
		}
		if !reflect.DeepEqual(x, longer) {
			t.Fatalf("what was handed in is %v", x)
		}
	}
}
