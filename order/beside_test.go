package order_test

import (
	"math/rand"
	"slices"
	"testing"

	"tontine/api"
	"tontine/claims"
	"tontine/frac"
	"tontine/order"
)

// 9.2: by hand; noughts at the end have their rows and columns.
func TestBesideByHand(t *testing.T) {
	for _, s := range []struct{ a, b, text string }{
		{"1", "1", "1"},
		{"1", "0 1", "0 1"},
		{"1", "1/3 0 2/3 0", "1/3 0 2/3 0"},
		{"1 0", "0 1", "0 1; 0 0"},
		{"1/2 1/2", "1/4 1/4 1/2", "1/4 1/4 0; 0 0 1/2"},
		{"1/2 1/2", "1/4 1/2 1/4", "1/4 1/4 0; 0 1/4 1/4"},
		{"2/3 0 1/3 0", "1/6 1/6 1/6 1/2", "1/6 1/6 1/6 1/6; 0 0 0 0; 0 0 0 1/3; 0 0 0 0"},
	} {
		m, err := order.Beside(law(t, s.a), law(t, s.b))
		wantMatrix(t, s.a+" | "+s.b, m, err, s.text)
	}
}

// 9.2: what is wrong, in its order.
func TestBesideErrors(t *testing.T) {
	most := api.MaxRows - 1
	for _, s := range []struct {
		what string
		a, b claims.Law
		e    api.Errno
	}{
		{"first too long", sure(most+1, 0), sure(most, 0), api.ErrLimit},
		{"first too long by a nought", sure(0, most+1), sure(most, 0), api.ErrLimit},
		{"second too long", sure(most, 0), sure(most+1, 0), api.ErrLimit},
		{"second too long by a nought", sure(0, 0), sure(most, 1), api.ErrLimit},
		{"too long, and above", sure(most+1, 0), sure(0, 0), api.ErrLimit},
		{"too long behind, and above", sure(1, 0), sure(0, most+1), api.ErrLimit},
		{"first too long, second not 1 together", sure(most+1, 0), law(t, "1/2"), api.ErrSum},
		{"first too long, second none", sure(most+1, 0), nil, api.ErrLimit},
		{"first too long, second below 0", sure(most+1, 0), law(t, "-1 2"), api.ErrArg},
		{"above", sure(1, 0), sure(0, 0), api.ErrNone},
		{"above in part", law(t, "0 1"), law(t, "1/2 0 1/2"), api.ErrNone},
		{"above at the last", sure(most, 0), sure(most-1, 1), api.ErrNone},
	} {
		m, err := order.Beside(s.a, s.b)
		wantError(t, s.what, err, s.e, m)
	}
	m, err := order.Beside(sure(0, most), sure(most, 0))
	if err != nil {
		t.Fatal(err)
	}
	wantMargins(t, "as long as may be", m, sure(0, most), sure(most, 0))
}

// atoms are a law's amounts, each so often as it has parts of a whole.
func atoms(l claims.Law, parts int) []int {
	var out []int
	for amount, chance := range l {
		n, _ := chance.Mul(frac.Whole(parts)).Int()
		out = append(out, slices.Repeat([]int{amount}, n)...)
	}
	return out
}

// byQuantiles is the matrix in which the n-th atom of the one is beside the n-th atom of the other.
func byQuantiles(a, b claims.Law, parts int) [][]frac.Frac {
	out := make([][]frac.Frac, len(a))
	for i := range out {
		out[i] = make([]frac.Frac, len(b))
	}
	second := atoms(b, parts)
	for n, i := range atoms(a, parts) {
		part, _ := frac.Of(1, parts)
		out[i][second[n]] = out[i][second[n]].Add(part)
	}
	return out
}

// 9.2: each small law beside each: there is a matrix where Always is true, and it is the one by quantiles.
func TestBesideAllSmall(t *testing.T) {
	laws := slices.Concat(parted(2, 6), parted(4, 6), parted(1, 6))
	for _, a := range laws {
		for _, b := range laws {
			what := frac.Words(a) + " | " + frac.Words(b)
			m, err := order.Beside(a, b)
			if below, _, _ := order.Always(a, b); !below {
				wantError(t, what, err, api.ErrNone, m)
				continue
			}
			wantMatrix(t, what, m, err, words(byQuantiles(a, b, 6)))
		}
	}
}

// 9.2: as long as may be, of many digits: no place with a chance has a's amount above b's.
func TestBesideLong(t *testing.T) {
	r := rand.New(rand.NewSource(93))
	a, b := longLaw(t, r, api.MaxRows), make(claims.Law, api.MaxRows)
	for i, f := range a {
		b[min(api.MaxRows-1, i+r.Intn(4))] = f
	}
	var rest frac.Frac
	for _, f := range b {
		rest = rest.Add(f)
	}
	b[api.MaxRows-1] = b[api.MaxRows-1].Add(frac.Whole(1).Sub(rest))
	m, err := order.Beside(a, b)
	if err != nil {
		t.Fatal(err)
	}
	wantMargins(t, "long", m, a, b)
	wantOwnRows(t, "long", m)
	for i, row := range m {
		for k, f := range row[:i] {
			if f.Sign() != 0 {
				t.Errorf("%d beside %d with the chance %s", i, k, f.Text())
			}
		}
	}
}
