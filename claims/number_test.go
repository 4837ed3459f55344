package claims_test

import (
	"fmt"
	"math/big"
	"math/rand"
	"strings"
	"testing"

	"tontine/api"
	"tontine/claims"
	"tontine/frac"
)

// The kinds are 1 and 2.
func TestKinds(t *testing.T) {
	if claims.Tries != 1 || claims.Failures != 2 {
		t.Errorf("%d, %d", claims.Tries, claims.Failures)
	}
}

// 7.4: by hand.
func TestNumberByHand(t *testing.T) {
	for _, s := range []struct {
		kind, n int
		p       string
		upTo    int
		text    string
	}{
		{claims.Tries, 0, "1/2", 0, "1"}, {claims.Tries, 0, "1/2", 2, "1 0 0"}, {claims.Tries, 3, "0", 4, "1 0 0 0 0"}, {claims.Tries, 1, "1/3", 3, "2/3 1/3 0 0"},
		{claims.Tries, 2, "1/3", 1, "4/9 4/9"}, {claims.Tries, 2, "1/3", 4, "4/9 4/9 1/9 0 0"}, {claims.Tries, 2, "1/3", 0, "4/9"},
		{claims.Failures, 1, "0", 2, "1 0 0"}, {claims.Failures, 1, "1/3", 3, "2/3 2/9 2/27 2/81"}, {claims.Failures, 2, "1/2", 4, "1/4 1/4 3/16 1/8 5/64"}, {claims.Failures, 2, "1/2", 0, "1/4"},
	} {
		l, err := claims.Chances(claims.Number{Kind: s.kind, N: s.n, P: one(t, s.p)}, s.upTo)
		wantRow(t, fmt.Sprint("Chances ", s), l, err, s.text)
		l, err = claims.Panjer(claims.Number{Kind: s.kind, N: s.n, P: one(t, s.p)}, sure(1, 0), s.upTo)
		wantRow(t, fmt.Sprint("Panjer of ones ", s), l, err, s.text)
	}
	for _, s := range []struct {
		kind, n int
		p, size string
		upTo    int
		text    string
	}{
		{claims.Tries, 2, "1/2", "0 1/2 1/2", 5, "1/4 1/4 5/16 1/8 1/16 0"},
		{claims.Tries, 2, "1/2", "1/2 0 1/2 0", 5, "9/16 0 3/8 0 1/16 0"},
		{claims.Tries, 5, "1/2", "1 0", 3, "1 0 0 0"},
		{claims.Tries, 0, "1/2", "0 1", 3, "1 0 0 0"},
		{claims.Failures, 1, "1/2", "0 1/2 1/2", 3, "1/2 1/8 5/32 9/128"},
		{claims.Failures, 1, "1/2", "1/2 1/2", 3, "2/3 2/9 2/27 2/81"},
		{claims.Failures, 7, "1/2", "1", 2, "1 0 0"},
		{claims.Failures, 7, "0", "0 1", 2, "1 0 0"},
	} {
		l, err := claims.Panjer(claims.Number{Kind: s.kind, N: s.n, P: one(t, s.p)}, law(t, s.size), s.upTo)
		wantRow(t, fmt.Sprint("Panjer ", s), l, err, s.text)
	}
}

// 7.4: errors, in their order.
func TestNumberErrors(t *testing.T) {
	half, good := "1/2", law(t, "1/2 1/2")
	tiny := "1/" + strings.Repeat("9", api.MaxDigits)
	for _, s := range []struct {
		kind, n int
		p       string
		size    claims.Law
		upTo    int
		e       api.Errno
	}{
		{0, 2, half, good, 2, api.ErrArg}, {3, 2, half, good, 2, api.ErrArg}, {-1, 2, half, good, 2, api.ErrArg}, {leastInt, 2, half, good, 2, api.ErrArg}, {greatestInt, 2, half, good, 2, api.ErrArg},
		{0, -1, "2", nil, -1, api.ErrArg}, {3, 201, half, good, 2, api.ErrArg},
		{claims.Tries, -1, half, good, 2, api.ErrRange}, {claims.Tries, api.MaxSize + 1, half, good, 2, api.ErrRange}, {claims.Tries, leastInt, half, good, 2, api.ErrRange}, {claims.Tries, greatestInt, half, good, 2, api.ErrRange},
		{claims.Failures, 0, half, good, 2, api.ErrRange}, {claims.Failures, -1, half, good, 2, api.ErrRange}, {claims.Failures, api.MaxSize + 1, half, good, 2, api.ErrRange},
		{claims.Tries, -1, "1", good, 2, api.ErrRange}, {claims.Failures, 0, "-1", nil, -1, api.ErrRange},
		{claims.Tries, 2, "1", good, 2, api.ErrArg}, {claims.Tries, 2, "-" + tiny, good, 2, api.ErrArg}, {claims.Tries, 0, "1", good, 2, api.ErrArg}, {claims.Tries, 2, "3/2", good, -1, api.ErrArg},
		{claims.Failures, 2, "1", good, 2, api.ErrArg}, {claims.Failures, 2, "-1", good, 2, api.ErrArg}, {claims.Failures, 2, "1", nil, 201, api.ErrArg},
		{claims.Tries, 2, half, good, -1, api.ErrRange}, {claims.Tries, 2, half, good, api.MaxSize + 1, api.ErrRange}, {claims.Failures, 2, half, good, leastInt, api.ErrRange}, {claims.Failures, 2, half, good, greatestInt, api.ErrRange},
	} {
		c := claims.Number{Kind: s.kind, N: s.n, P: one(t, s.p)}
		what := fmt.Sprint(s.kind, s.n, s.p, s.upTo)
		l, err := claims.Chances(c, s.upTo)
		wantError(t, "Chances "+what, err, s.e, l)
		l, err = claims.Panjer(c, s.size, s.upTo)
		wantError(t, "Panjer "+what, err, s.e, l)
	}
	c := claims.Number{Kind: claims.Tries, N: 2, P: one(t, half)}
	l, err := claims.Panjer(c, nil, -1)
	wantError(t, "Panjer, no law and no amount", err, api.ErrLimit, l)
	l, err = claims.Panjer(c, law(t, "-1 2"), -1)
	wantError(t, "Panjer, a law below 0 and no amount", err, api.ErrArg, l)
	l, err = claims.Panjer(c, law(t, "1/2"), 201)
	wantError(t, "Panjer, a law that is not 1 and too great an amount", err, api.ErrSum, l)
}

// tried are all ways in which n tries may fall: how many are claims.
func tried(n int, p *big.Rat) []way {
	stays := new(big.Rat).Sub(big.NewRat(1, 1), p)
	return repeated([]way{{0, stays}, {1, p}}, n)
}

// failed are all ways in which claims come ahead of the n-th time that none comes, up to so many claims.
func failed(n int, p *big.Rat, upTo int) []way {
	if n == 0 {
		return nothing()
	}
	stays := new(big.Rat).Sub(big.NewRat(1, 1), p)
	out := both([]way{{0, stays}}, failed(n-1, p, upTo))
	if upTo > 0 {
		out = append(out, both([]way{{1, p}}, failed(n, p, upTo-1))...)
	}
	return out
}

// drawnChance is one from 0 and below 1.
func drawnChance(r *rand.Rand) frac.Frac {
	under := 1 + r.Intn(12)
	f, _ := frac.Of(r.Intn(under), under)
	return f
}

// 7.4: against all ways in which numbers may come.
func TestChancesAllWays(t *testing.T) {
	r := rand.New(rand.NewSource(75))
	for range 60 {
		p := drawnChance(r)
		n, upTo := r.Intn(8), r.Intn(10)
		l, err := claims.Chances(claims.Number{Kind: claims.Tries, N: n, P: p}, upTo)
		wantRats(t, fmt.Sprint("Tries ", n, " ", p.Text(), " up to ", upTo), l, err, row(tried(n, rat(p)), upTo))
		n, upTo = 1+r.Intn(4), r.Intn(6)
		l, err = claims.Chances(claims.Number{Kind: claims.Failures, N: n, P: p}, upTo)
		wantRats(t, fmt.Sprint("Failures ", n, " ", p.Text(), " up to ", upTo), l, err, row(failed(n, rat(p), upTo), upTo))
	}
}

// series is the product of two rows of numbers, as far as the first one goes.
func series(a, b []*big.Rat) []*big.Rat {
	var out []*big.Rat
	for n := range a {
		sum := new(big.Rat)
		for k := 0; k <= n && k < len(b); k++ {
			sum.Add(sum, new(big.Rat).Mul(a[n-k], b[k]))
		}
		out = append(out, sum)
	}
	return out
}

// wantPanjer fails unless Panjer tells what the number's and the size's law ask: of Tries, that each try is a claim by the size's law, or 0; of Failures that, with n laws put back to it that take a claim away, just the chance that none comes is left, at 0.
func wantPanjer(t *testing.T, c claims.Number, size claims.Law, upTo int) {
	t.Helper()
	what := fmt.Sprint("Panjer ", c.Kind, " ", c.N, " ", c.P.Text(), " of ", frac.Words(size), " up to ", upTo)
	l, err := claims.Panjer(c, size, upTo)
	if err != nil || len(l) != upTo+1 {
		t.Errorf("%s: %d numbers, %v", what, len(l), err)
		return
	}
	p := rat(c.P)
	none := new(big.Rat).Sub(big.NewRat(1, 1), p)
	var single []*big.Rat
	for _, f := range size {
		single = append(single, new(big.Rat).Mul(rat(f), p))
	}
	if c.Kind == claims.Tries {
		single[0].Add(single[0], none)
		all := row(nothing(), upTo)
		for range c.N {
			all = series(all, single)
		}
		wantRats(t, what, l, err, all)
		return
	}
	for _, x := range single {
		x.Neg(x)
	}
	single[0].Add(single[0], big.NewRat(1, 1))
	var all []*big.Rat
	for _, f := range l {
		all = append(all, rat(f))
	}
	left := big.NewRat(1, 1)
	for range c.N {
		all = series(all, single)
		left.Mul(left, none)
	}
	if texts(all) != texts(row([]way{{0, left}}, upTo)) {
		t.Errorf("%s: %s", what, frac.Words(l))
	}
}

// 7.4: Panjer against convolution.
func TestPanjer(t *testing.T) {
	r := rand.New(rand.NewSource(76))
	for range 150 {
		wantPanjer(t, claims.Number{Kind: claims.Tries, N: r.Intn(12), P: drawnChance(r)}, drawnLaw(r, 1+r.Intn(7)), r.Intn(20))
		wantPanjer(t, claims.Number{Kind: claims.Failures, N: 1 + r.Intn(8), P: drawnChance(r)}, drawnLaw(r, 1+r.Intn(7)), r.Intn(20))
	}
	long := longLaw(t, r, 6)
	for _, kind := range []int{claims.Tries, claims.Failures} {
		wantPanjer(t, claims.Number{Kind: kind, N: 4, P: long[2]}, long, 9)
		wantPanjer(t, claims.Number{Kind: kind, N: 1, P: one(t, "2/3")}, even(api.MaxSize), api.MaxSize)
		wantPanjer(t, claims.Number{Kind: kind, N: 30, P: one(t, "2/3")}, drawnLaw(r, 5), api.MaxSize)
	}
}

// 7.4: of Tries, Panjer tells what Compound of Chances does.
func TestPanjerCompound(t *testing.T) {
	r := rand.New(rand.NewSource(77))
	for range 60 {
		size := drawnLaw(r, 1+r.Intn(6))
		c := claims.Number{Kind: claims.Tries, N: r.Intn(api.MaxSize/len(size)/3 + 1), P: drawnChance(r)}
		number, err := claims.Chances(c, c.N)
		if err != nil {
			t.Fatal(err)
		}
		all, err := claims.Compound(number, size)
		if err != nil {
			t.Fatal(err)
		}
		l, err := claims.Panjer(c, size, api.MaxSize)
		wantRow(t, fmt.Sprint("Panjer ", c.N, c.P.Text(), frac.Words(size)), l, err, frac.Words(append(all, make(claims.Law, api.MaxSize+1-len(all))...)))
	}
}

// 7.4: as many claims as there may be.
func TestNumberMost(t *testing.T) {
	half := one(t, "1/2")
	tries := claims.Number{Kind: claims.Tries, N: api.MaxSize, P: half}
	l, err := claims.Chances(tries, api.MaxSize)
	wantRats(t, "Tries", l, err, binomials(api.MaxSize))
	l, err = claims.Panjer(tries, sure(1, 0), api.MaxSize)
	wantRats(t, "Panjer of Tries", l, err, binomials(api.MaxSize))
	failures := claims.Number{Kind: claims.Failures, N: api.MaxSize, P: half}
	var rats []*big.Rat
	for k := range api.MaxSize + 1 { // the last one is none, ahead of it claims stand wherever they may
		ways := new(big.Int).Binomial(int64(api.MaxSize+k-1), int64(k))
		rats = append(rats, new(big.Rat).SetFrac(ways, new(big.Int).Lsh(big.NewInt(1), uint(api.MaxSize+k))))
	}
	l, err = claims.Chances(failures, api.MaxSize)
	wantRats(t, "Failures", l, err, rats)
	l, err = claims.Panjer(failures, sure(1, 0), api.MaxSize)
	wantRats(t, "Panjer of Failures", l, err, rats)
	for _, c := range []claims.Number{tries, failures} {
		l, err = claims.Panjer(c, even(api.MaxSize), api.MaxSize)
		if err != nil || len(l) != api.MaxSize+1 || l[0].Sign() <= 0 || l[api.MaxSize].Sign() <= 0 {
			t.Errorf("Panjer of kind %d: %d numbers, %v", c.Kind, len(l), err)
		}
	}
}
