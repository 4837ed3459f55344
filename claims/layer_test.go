package claims_test

import (
	"fmt"
	"math/big"
	"math/rand"
	"testing"

	"tontine/api"
	"tontine/claims"
	"tontine/frac"
)

// 7.6: by hand; noughts behind a law do not come out.
func TestLayerByHand(t *testing.T) {
	l := law(t, "1/4 0 1/2 1/4 0")
	for from, text := range []string{"7/4", "1", "1/4", "0", "0", "0"} {
		f, err := claims.Stop(l, from)
		want(t, fmt.Sprint("Stop at ", from), f, err, text)
	}
	for _, s := range []struct {
		from, width int
		text        string
	}{
		{0, 0, "1"}, {0, 1, "1/4 3/4"}, {0, 2, "1/4 0 3/4"}, {0, 3, "1/4 0 1/2 1/4"}, {0, 4, "1/4 0 1/2 1/4"}, {0, api.MaxSize, "1/4 0 1/2 1/4"},
		{1, 0, "1"}, {1, 1, "1/4 3/4"}, {1, 2, "1/4 1/2 1/4"}, {1, 3, "1/4 1/2 1/4"},
		{2, 0, "1"}, {2, 1, "3/4 1/4"}, {2, 2, "3/4 1/4"}, {3, 0, "1"}, {3, 3, "1"}, {4, 1, "1"}, {api.MaxSize, api.MaxSize, "1"},
	} {
		x, err := claims.Layer(l, s.from, s.width)
		wantRow(t, fmt.Sprint("Layer beyond ", s.from, ", ", s.width), x, err, s.text)
	}
}

// 7.6: which amounts may be.
func TestLayerErrors(t *testing.T) {
	l := law(t, "1/2 1/2")
	for _, n := range []int{-1, api.MaxSize + 1, leastInt, greatestInt} {
		f, err := claims.Stop(l, n)
		wantError(t, fmt.Sprint("Stop at ", n), err, api.ErrRange, f)
		for _, other := range []int{0, 1, api.MaxSize, n} {
			x, err := claims.Layer(l, n, other)
			wantError(t, fmt.Sprint("Layer beyond ", n, ", ", other), err, api.ErrRange, x)
			x, err = claims.Layer(l, other, n)
			wantError(t, fmt.Sprint("Layer beyond ", other, ", ", n), err, api.ErrRange, x)
		}
	}
	f, err := claims.Stop(even(api.MaxSize), api.MaxSize)
	want(t, "Stop at the last", f, err, "0")
	f, err = claims.Stop(sure(api.MaxSize, 0), api.MaxSize-1)
	want(t, "Stop ahead of the last", f, err, "1")
	x, err := claims.Layer(sure(api.MaxSize, 0), 0, api.MaxSize)
	wantRow(t, "Layer of all", x, err, frac.Words(sure(api.MaxSize, 0)))
}

// 7.6: against amounts that are all as likely.
func TestLayerAtoms(t *testing.T) {
	r := rand.New(rand.NewSource(80))
	for range 150 {
		atoms := drawnAtoms(r, 1+r.Intn(9))
		l := lawOf(atoms, r.Intn(3))
		for from := range 12 {
			f, err := claims.Stop(l, from)
			want(t, fmt.Sprint("Stop of ", atoms, " at ", from), f, err, meanOf(atoms, func(amount int) *big.Rat { return asIs(max(0, amount-from)) }).RatString())
			width := r.Intn(12)
			var within []int
			for _, amount := range atoms {
				within = append(within, min(width, max(0, amount-from)))
			}
			x, err := claims.Layer(l, from, width)
			wantRow(t, fmt.Sprint("Layer of ", atoms, " beyond ", from, ", ", width), x, err, frac.Words(lawOf(within, 0)))
			f, err = claims.Mean(x) // what is beyond from, less what is beyond both
			stop, _ := claims.Stop(l, from)
			more, _ := claims.Stop(l, from+width)
			want(t, "its mean", f, err, stop.Sub(more).Text())
		}
	}
}
