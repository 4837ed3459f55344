package order_test

import (
	"math/rand"
	"slices"
	"testing"

	"tontine/api"
	"tontine/claims"
	"tontine/frac"
	"tontine/order"
)

// wantSpread fails unless a matrix shows that b is a, and something beside that is nothing in the mean.
func wantSpread(t *testing.T, a, b claims.Law) {
	t.Helper()
	what := frac.Words(a) + " | " + frac.Words(b)
	m, err := order.Spread(a, b)
	if err != nil {
		t.Fatalf("%s: %v", what, err)
	}
	wantMargins(t, what, m, a, b)
	wantOwnRows(t, what, m)
	for i, row := range m {
		var all frac.Frac
		for k, f := range row {
			all = all.Add(f.Mul(frac.Whole(k - i)))
		}
		if all.Sign() != 0 {
			t.Errorf("%s: the mean of row %d is %s amiss: %s", what, i, all.Text(), words(m))
		}
	}
}

// 9.3: by hand, where there is but one matrix.
func TestSpreadByHand(t *testing.T) {
	for _, s := range []struct{ a, b, text string }{
		{"1", "1", "1"},
		{"1 0", "1", "1; 0"},
		{"1", "1 0 0", "1 0 0"},
		{"0 1", "1/2 0 1/2", "0 0 0; 1/2 0 1/2"},
		{"0 1 0 0", "2/3 0 0 1/3 0", "0 0 0 0 0; 2/3 0 0 1/3 0; 0 0 0 0 0; 0 0 0 0 0"},
		{"1/2 0 1/2", "1/2 1/4 0 1/4", "1/2 0 0 0; 0 0 0 0; 0 1/4 0 1/4"},
		{"0 1/2 0 1/2", "1/2 0 0 0 1/2", "0 0 0 0 0; 3/8 0 0 0 1/8; 0 0 0 0 0; 1/8 0 0 0 3/8"},
		{"1/3 1/3 1/3", "1/3 1/3 1/3", "1/3 0 0; 0 1/3 0; 0 0 1/3"},
	} {
		m, err := order.Spread(law(t, s.a), law(t, s.b))
		wantMatrix(t, s.a+" | "+s.b, m, err, s.text)
	}
}

// 9.3: what is wrong, in its order.
func TestSpreadErrors(t *testing.T) {
	for _, s := range []struct {
		what string
		a, b claims.Law
		e    api.Errno
	}{
		{"first too long", sure(9, 0), sure(8, 0), api.ErrLimit},
		{"first too long by noughts", sure(0, 9), sure(0, 0), api.ErrLimit},
		{"second too long", sure(8, 0), sure(9, 0), api.ErrLimit},
		{"second too long by noughts", sure(0, 0), sure(0, 9), api.ErrLimit},
		{"both too long", sure(9, 0), sure(9, 0), api.ErrLimit},
		{"first too long and not 1 together", append(sure(9, 0), frac.Whole(1)), sure(8, 0), api.ErrSum},
		{"first too long and below 0", append(sure(9, 0), frac.Whole(-1)), sure(8, 0), api.ErrArg},
		{"first too long, second below 0", sure(9, 0), law(t, "-1 2"), api.ErrLimit},
		{"first too long, second not 1 together", sure(9, 0), law(t, "1/2"), api.ErrLimit},
		{"second too long and not 1 together", sure(8, 0), append(sure(9, 0), frac.Whole(1)), api.ErrSum},
		{"second too long and below 0", sure(8, 0), append(sure(9, 0), frac.Whole(-1)), api.ErrArg},
		{"first of a greater mean", sure(2, 0), sure(1, 0), api.ErrSum},
		{"second of a greater mean", sure(1, 0), sure(2, 0), api.ErrSum},
		{"a mean a little greater", law(t, "1/2 1/2"), law(t, "1/2 4999999/10000000 1/10000000"), api.ErrSum},
		{"spread the other way", law(t, "1/2 0 1/2"), law(t, "0 1"), api.ErrNone},
		{"crossing", law(t, "0 1/2 0 0 1/2"), law(t, "1/6 0 0 5/6"), api.ErrNone},
		{"a little above far out", law(t, "1/9 0 0 7/9 0 0 1/9"), law(t, "0 4/9 0 1/9 0 4/9"), api.ErrNone},
	} {
		m, err := order.Spread(s.a, s.b)
		wantError(t, s.what, err, s.e, m)
	}
	wantSpread(t, sure(8, 0), sure(8, 0))
	wantSpread(t, sure(0, 8), sure(0, 0))
	wantSpread(t, sure(4, 4), law(t, "1/2 0 0 0 0 0 0 0 1/2"))
}

// 9.3: each small law beside each.
func TestSpreadAllSmall(t *testing.T) {
	laws := slices.Concat(parted(5, 6), parted(3, 6))
	shown := 0
	for _, a := range laws {
		for _, b := range laws {
			meanA, _ := claims.Mean(a)
			meanB, _ := claims.Mean(b)
			rather, _, _ := order.Rather(a, b)
			what := frac.Words(a) + " | " + frac.Words(b)
			switch {
			case meanA.Cmp(meanB) != 0:
				m, err := order.Spread(a, b)
				wantError(t, what, err, api.ErrSum, m)
			case !rather:
				m, err := order.Spread(a, b)
				wantError(t, what, err, api.ErrNone, m)
			default:
				wantSpread(t, a, b)
				shown++
			}
		}
	}
	if shown < 1000 {
		t.Errorf("only %d pairs were shown", shown)
	}
}

// spreadOnce is a law in which a part of one amount went to amounts below and above it, so that the mean is the same.
func spreadOnce(r *rand.Rand, l claims.Law) claims.Law {
	out := slices.Clone(l)
	at := 1 + r.Intn(len(l)-2)
	low, high := r.Intn(at), at+1+r.Intn(len(l)-at-1)
	part, _ := frac.Of(1+r.Intn(7), 7)
	part = part.Mul(out[at])
	up, _ := frac.Of(at-low, high-low)
	out[at] = out[at].Sub(part)
	out[high] = out[high].Add(part.Mul(up))
	out[low] = out[low].Add(part.Mul(frac.Whole(1).Sub(up)))
	return out
}

// 9.3: laws as long as may be, spread again and again.
func TestSpreadDrawn(t *testing.T) {
	r := rand.New(rand.NewSource(94))
	for range 400 {
		a := drawnLaw(r, 9)
		b := a
		for range 1 + r.Intn(6) {
			b = spreadOnce(r, b)
			wantSpread(t, a, b)
		}
		if frac.Words(a) != frac.Words(b) {
			m, err := order.Spread(b, a)
			wantError(t, "the other way", err, api.ErrNone, m)
		}
	}
}

// 9.3: numbers of many digits.
func TestSpreadLong(t *testing.T) {
	r := rand.New(rand.NewSource(95))
	a := longLaw(t, r, 9)
	b := a
	for range 12 {
		b = spreadOnce(r, b)
	}
	wantSpread(t, a, b)
	wantSpread(t, a, a)
}
