package claims_test

import (
	"fmt"
	"math/big"
	"math/rand"
	"testing"

	"tontine/api"
	"tontine/claims"
	"tontine/frac"
)

// 7.1, 7.3: by hand; noughts behind a law do not come out.
func TestTogetherByHand(t *testing.T) {
	for _, s := range []struct{ a, b, text string }{
		{"1", "1", "1"}, {"1 0 0", "1 0", "1"}, {"0 1", "0 0 1", "0 0 0 1"}, {"1/2 1/2", "1/3 2/3", "1/6 1/2 1/3"}, {"1/2 1/2 0", "1/3 0 2/3 0 0", "1/6 1/6 1/3 1/3"},
	} {
		l, err := claims.Sum(law(t, s.a), law(t, s.b))
		wantRow(t, "Sum of "+s.a+" and "+s.b, l, err, s.text)
		l, err = claims.Sum(law(t, s.b), law(t, s.a))
		wantRow(t, "Sum of "+s.b+" and "+s.a, l, err, s.text)
	}
	for _, s := range []struct {
		l    string
		n    int
		text string
	}{
		{"1/2 1/2", 0, "1"}, {"1/3 2/3 0", 0, "1"}, {"0 0 1", 0, "1"}, {"1/3 2/3 0 0", 1, "1/3 2/3"}, {"1/3 2/3", 2, "1/9 4/9 4/9"}, {"0 1/3 2/3 0", 2, "0 0 1/9 4/9 4/9"}, {"1 0", 7, "1"}, {"0 0 1", 3, "0 0 0 0 0 0 1"},
	} {
		l, err := claims.Times(law(t, s.l), s.n)
		wantRow(t, fmt.Sprint("Times of ", s.l, ", ", s.n), l, err, s.text)
	}
	for _, s := range []struct{ number, size, text string }{
		{"1", "1/2 1/2", "1"}, {"1 0 0", "0 1", "1"}, {"1/2 1/2", "1 0 0", "1"}, {"0 0 1", "1/2 1/2", "1/4 1/2 1/4"}, {"0 1 0", "1/3 0 2/3 0", "1/3 0 2/3"},
		{"1/2 1/3 1/6 0", "1/2 0 1/2 0", "17/24 0 1/4 0 1/24"}, {"1/4 1/4 1/2", "0 1/3 2/3", "1/4 1/12 2/9 2/9 2/9"},
	} {
		l, err := claims.Compound(law(t, s.number), law(t, s.size))
		wantRow(t, "Compound of "+s.number+" and "+s.size, l, err, s.text)
	}
}

// 7.3: against all ways in which amounts may come.
func TestTogetherAllWays(t *testing.T) {
	r := rand.New(rand.NewSource(73))
	for range 200 {
		a, b := drawnLaw(r, 1+r.Intn(8)), drawnLaw(r, 1+r.Intn(8))
		what := frac.Words(a) + " and " + frac.Words(b)
		l, err := claims.Sum(a, b)
		wantRats(t, "Sum of "+what, l, err, lawRow(both(waysOf(a), waysOf(b))))
	}
	for range 60 {
		number, size := drawnLaw(r, 4), drawnLaw(r, 1+r.Intn(4))
		for n := range 5 {
			l, err := claims.Times(size, n)
			wantRats(t, fmt.Sprint("Times of ", frac.Words(size), ", ", n), l, err, lawRow(repeated(waysOf(size), n)))
		}
		var all []way
		for n, w := range number {
			all = append(all, both([]way{{0, rat(w)}}, repeated(waysOf(size), n))...)
		}
		l, err := claims.Compound(number, size)
		wantRats(t, "Compound of "+frac.Words(number)+" and "+frac.Words(size), l, err, lawRow(all))
	}
}

// 7.3: how great amounts may be: those that have a chance count.
func TestTogetherLimits(t *testing.T) {
	for _, s := range []struct {
		a, b int
		good bool
	}{{0, 200, true}, {200, 0, true}, {100, 100, true}, {101, 100, false}, {100, 101, false}, {200, 1, false}, {1, 200, false}, {200, 200, false}, {199, 1, true}} {
		what := fmt.Sprint("Sum of up to ", s.a, " and up to ", s.b)
		for _, noughts := range []int{0, 1} {
			l, err := claims.Sum(sure(s.a, min(noughts, api.MaxSize-s.a)), sure(s.b, min(noughts, api.MaxSize-s.b)))
			if s.good {
				wantRow(t, what, l, err, frac.Words(sure(s.a+s.b, 0)))
			} else {
				wantError(t, what, err, api.ErrLimit, l)
			}
		}
	}
	l, err := claims.Sum(sure(0, 200), sure(200, 0))
	wantRow(t, "Sum of noughts at the end", l, err, frac.Words(sure(200, 0)))
	l, err = claims.Sum(sure(1, 199), sure(199, 1))
	wantRow(t, "Sum of more noughts at the end", l, err, frac.Words(sure(200, 0)))
	for _, s := range []struct {
		greatest, n int
		good        bool
	}{
		{0, 0, true}, {0, 200, true}, {0, 201, false}, {0, -1, false}, {0, leastInt, false}, {0, greatestInt, false}, {1, 200, true}, {1, 201, false}, {2, 100, true}, {2, 101, false}, {200, 1, true}, {200, 2, false}, {200, 0, true}, {101, 2, false}, {3, 66, true}, {3, 67, false},
		{200, 1 << 62, false}, {4, 1 << 62, false}, {1, leastInt, false},
	} {
		what := fmt.Sprint("Times of up to ", s.greatest, ", ", s.n)
		for _, noughts := range []int{0, 1, api.MaxSize - s.greatest} {
			l, err := claims.Times(sure(s.greatest, min(noughts, api.MaxSize-s.greatest)), s.n)
			if s.good {
				wantRow(t, what, l, err, frac.Words(sure(s.greatest*s.n, 0)))
			} else {
				wantError(t, what, err, api.ErrLimit, l)
			}
		}
	}
	for _, s := range []struct {
		number, size int
		good         bool
	}{{0, 200, true}, {200, 0, true}, {200, 1, true}, {1, 200, true}, {14, 14, true}, {14, 15, false}, {15, 14, false}, {10, 20, true}, {20, 10, true}, {200, 2, false}, {2, 101, false}, {200, 200, false}} {
		what := fmt.Sprint("Compound of up to ", s.number, " and up to ", s.size)
		for _, noughts := range []int{0, 1} {
			l, err := claims.Compound(sure(s.number, min(noughts, api.MaxSize-s.number)), sure(s.size, min(noughts, api.MaxSize-s.size)))
			if s.good {
				wantRow(t, what, l, err, frac.Words(sure(s.number*s.size, 0)))
			} else {
				wantError(t, what, err, api.ErrLimit, l)
			}
		}
	}
}

// binomials are how often each number comes in all ways in which n may fall.
func binomials(n int) []*big.Rat {
	var out []*big.Rat
	for k := range n + 1 {
		ways := new(big.Int).Binomial(int64(n), int64(k))
		out = append(out, new(big.Rat).SetFrac(ways, new(big.Int).Lsh(big.NewInt(1), uint(n))))
	}
	return out
}

// 7.3: as many amounts as there may be.
func TestTogetherMost(t *testing.T) {
	half := law(t, "1/2 1/2")
	l, err := claims.Times(half, api.MaxSize)
	wantRats(t, "Times", l, err, binomials(api.MaxSize))
	l, err = claims.Compound(sure(api.MaxSize, 0), half)
	wantRats(t, "Compound", l, err, binomials(api.MaxSize))
	a, err := claims.Times(half, 120)
	if err != nil {
		t.Fatal(err)
	}
	b, err := claims.Times(half, 80)
	if err != nil {
		t.Fatal(err)
	}
	l, err = claims.Sum(a, b)
	wantRats(t, "Sum", l, err, binomials(api.MaxSize))
	l, err = claims.Compound(even(api.MaxSize), even(1))
	rats := row(nil, api.MaxSize)
	for n := range api.MaxSize + 1 { // each number is as likely
		for amount, chance := range binomials(n) {
			rats[amount].Add(rats[amount], chance.Mul(chance, big.NewRat(1, api.MaxSize+1)))
		}
	}
	wantRats(t, "Compound of even", l, err, rats)
}

// 7.3: numbers of many digits.
func TestTogetherLong(t *testing.T) {
	r := rand.New(rand.NewSource(74))
	a, b := longLaw(t, r, 12), longLaw(t, r, 9)
	l, err := claims.Sum(a, b)
	wantRats(t, "Sum", l, err, lawRow(both(waysOf(a), waysOf(b))))
	short := longLaw(t, r, 4)
	l, err = claims.Times(short, 4)
	wantRats(t, "Times", l, err, lawRow(repeated(waysOf(short), 4)))
	number := longLaw(t, r, 5)
	var all []way
	for n, w := range number {
		all = append(all, both([]way{{0, rat(w)}}, repeated(waysOf(short), n))...)
	}
	l, err = claims.Compound(number, short)
	wantRats(t, "Compound", l, err, lawRow(all))
}
