package flow_test

import (
	"fmt"
	"math/big"
	"math/rand"
	"slices"
	"strings"
	"testing"

	"tontine/api"
	"tontine/flow"
	"tontine/frac"
)

// wantSpans fails unless the spans of payments are written so, without an error.
func wantSpans(t *testing.T, pay []frac.Frac, bits int, spans string) {
	t.Helper()
	l, err := flow.Yields(pay, bits)
	if err != nil || written(l) != spans {
		t.Errorf("%s, %d bits: %s, %v, not %s", frac.Words(pay), bits, written(l), err, spans)
	}
}

// 4.4: Yields.
func TestYields(t *testing.T) {
	for _, c := range []struct {
		pay   string
		bits  int
		spans string
	}{
		{"-100 5 5 105", 10, "975/1024 61/64"}, {"100 -5 -5 -105", 10, "975/1024 61/64"}, {"-100 5 5 105", 0, "0 1"},
		// a root at an end: it belongs to the span below
		{"-1 1", 0, "0 1"}, {"-1 1", 1, "1/2 1"}, {"-1 1", 3, "7/8 1"}, {"-2 1", 0, "1 2"}, {"-3 1", 2, "11/4 3"}, {"-3 2", 0, "1 2"}, {"-3 2", 1, "1 3/2"}, {"-3 2", 2, "5/4 3/2"}, {"-1 2", 1, "0 1/2"}, {"-1 2", 2, "1/4 1/2"},
		{"-1000000 1", 0, "999999 1000000"}, {"1 -1000000", 0, "0 1"}, {"1 -1000000", 19, "0 1/524288"}, {"1 -1000000", 20, "1/1048576 1/524288"},
		// roots that only a shorter span parts
		{"2 -3 1", 0, "0 1; 1 2"}, {"1 -3 2", 0, "0 1/2; 1/2 1"}, {"3 -4 1", 0, "0 1; 2 3"}, {"6 -5 1", 0, "1 2; 2 3"}, {"1 -5 6", 0, "1/4 3/8; 3/8 1/2"}, {"1 -5 6", 3, "1/4 3/8; 3/8 1/2"}, {"1 -5 6", 4, "5/16 3/8; 7/16 1/2"},
		// none above 0
		{"1", 0, ""}, {"-7/3", 64, ""}, {"1 1", 5, ""}, {"1 0 1", 5, ""}, {"2 3 1", 5, ""}, {"0 1", 5, ""}, {"0 0 0 -2", 5, ""}, {"0 1 1", 5, ""}, {"1 -1 1", 5, ""},
		// each once
		{"1 -2 1", 2, "3/4 1"}, {"-1 3 -3 1", 2, "3/4 1"}, {"4 -8 5 -1", 1, "1/2 1; 3/2 2"}, {"0 0 1 -2 1", 2, "3/4 1"}, {"1 0 -2 0 1", 2, "3/4 1"}, {"4 0 -4 0 1", 0, "1 2"}, {"1/9 -2/3 1", 2, "1/4 1/2"},
		// noughts ahead and behind count for nothing
		{"0 -1 1", 0, "0 1"}, {"0 0 0 -1 1 0 0", 1, "1/2 1"}, {"-1 0 0 1", 1, "1/2 1"}, {"-8 0 0 1 0", 0, "1 2"}, {"-2 0 1", 3, "11/8 3/2"},
		// fractions
		{"-1/2 1/3", 1, "1 3/2"}, {"-1/3 1/7", 0, "2 3"}, {"2/3 -5/6 1/6", 0, "0 1; 3 4"},
		{"1 0 -2", 64, "3260954456333195553/4611686018427387904 13043817825332782213/18446744073709551616"},
	} {
		wantSpans(t, fracs(t, c.pay), c.bits, c.spans)
	}
}

// 4.4: errors, in the order in which they are told, and the bounds.
func TestYieldsErrors(t *testing.T) {
	noughts := func(n int) []frac.Frac { return make([]frac.Frac, n) }
	last := func(n int) []frac.Frac { return append(noughts(n-1), frac.Whole(1)) }
	for _, bits := range []int{-1, 65, 0, 64, leastInt, greatestInt} {
		for _, n := range []int{0, 1, 2, 21, 22, 100_000} {
			l, err := flow.Yields(noughts(n), bits)
			wantError(t, fmt.Sprintf("%d noughts, %d bits", n, bits), err, api.ErrZero, l)
		}
		l, err := flow.Yields(nil, bits)
		wantError(t, "no payments", err, api.ErrZero, l)
		for _, n := range []int{22, 23, 1000} {
			l, err := flow.Yields(last(n), bits)
			wantError(t, fmt.Sprintf("%d payments, %d bits", n, bits), err, api.ErrLimit, l)
		}
		if bits >= 0 && bits <= 64 {
			continue
		}
		for _, n := range []int{1, 2, 21} {
			l, err := flow.Yields(last(n), bits)
			wantError(t, fmt.Sprintf("%d payments, %d bits", n, bits), err, api.ErrRange, l)
		}
	}
	most := last(21)
	most[0] = frac.Whole(-1)
	for _, pay := range [][]frac.Frac{most, append(slices.Clone(most), noughts(5000)...)} {
		wantSpans(t, pay, 1, "1/2 1")
	}
	l, err := flow.Yields(append(slices.Clone(most), frac.Whole(1)), 1)
	wantError(t, "a payment too many", err, api.ErrLimit, l)
}

// poly is a polynomial of the library's fractions, from the lowest power on.
type poly []*big.Rat

func (p poly) trimmed() poly {
	for len(p) > 0 && p[len(p)-1].Sign() == 0 {
		p = p[:len(p)-1]
	}
	return p
}

// split is p divided by g, and what is left.
func (p poly) split(g poly) (poly, poly) {
	rest := poly{}
	for _, c := range p {
		rest = append(rest, new(big.Rat).Set(c))
	}
	var quo poly
	for len(rest) >= len(g) {
		times := new(big.Rat).Quo(rest[len(rest)-1], g[len(g)-1])
		for i, c := range g {
			k := len(rest) - len(g) + i
			rest[k].Sub(rest[k], new(big.Rat).Mul(times, c))
		}
		quo = append(poly{times}, quo...)
		rest = rest[:len(rest)-1]
	}
	return quo, rest.trimmed()
}

func (p poly) slope() poly {
	var out poly
	for i := 1; i < len(p); i++ {
		out = append(out, new(big.Rat).Mul(p[i], big.NewRat(int64(i), 1)))
	}
	return out
}

func (p poly) times(q poly) poly {
	out := make(poly, len(p)+len(q)-1)
	for i := range out {
		out[i] = new(big.Rat)
	}
	for i, a := range p {
		for k, b := range q {
			out[i+k].Add(out[i+k], new(big.Rat).Mul(a, b))
		}
	}
	return out
}

// simple is p without multiple roots.
func (p poly) simple() poly {
	f, g := p, p.slope()
	for len(g) > 0 {
		_, rest := f.split(g)
		f, g = g, rest
	}
	quo, _ := p.split(f)
	return quo
}

// sturm is the chain of p, which has no multiple roots.
func (p poly) sturm() []poly {
	chain := []poly{p, p.slope()}
	for len(chain[len(chain)-1]) > 0 {
		_, rest := chain[len(chain)-2].split(chain[len(chain)-1])
		for _, c := range rest {
			c.Neg(c)
		}
		chain = append(chain, rest)
	}
	return chain[:len(chain)-1]
}

// changes is how often the signs of a chain change at x.
func changes(chain []poly, x *big.Rat) int {
	n, ahead := 0, 0
	for _, p := range chain {
		value := new(big.Rat)
		for i := len(p) - 1; i >= 0; i-- {
			value.Add(value.Mul(value, x), p[i])
		}
		if value.Sign()*ahead < 0 {
			n++
		}
		if value.Sign() != 0 {
			ahead = value.Sign()
		}
	}
	return n
}

// halvedSpans are the spans as the document makes them, with roots counted by Sturm.
func halvedSpans(chain []poly, low, high, length *big.Rat) []string {
	roots := changes(chain, low) - changes(chain, high)
	switch {
	case roots == 0:
		return nil
	case roots == 1 && new(big.Rat).Sub(high, low).Cmp(length) <= 0:
		return []string{low.RatString() + " " + high.RatString()}
	}
	middle := new(big.Rat).Add(low, high)
	middle.Mul(middle, big.NewRat(1, 2))
	return append(halvedSpans(chain, low, middle, length), halvedSpans(chain, middle, high, length)...)
}

// told is what the document asks of Yields.
func told(pay poly, bits int) string {
	p := pay.trimmed().simple()
	most := new(big.Rat)
	for _, c := range p {
		size := new(big.Rat).Quo(c, p[len(p)-1])
		if size.Abs(size).Cmp(most) > 0 {
			most = size
		}
	}
	most.Add(most, big.NewRat(1, 1))
	bound := big.NewRat(2, 1)
	for bound.Cmp(most) < 0 {
		bound.Add(bound, bound)
	}
	length := new(big.Rat).SetFrac(big.NewInt(1), new(big.Int).Lsh(big.NewInt(1), uint(bits)))
	return strings.Join(halvedSpans(p.sturm(), new(big.Rat), bound, length), "; ")
}

// payments are a polynomial's coefficients as fractions of the program's.
func payments(p poly) []frac.Frac {
	var out []frac.Frac
	whole := func(n *big.Int) frac.Frac {
		var f frac.Frac
		for _, digit := range n.Text(10) {
			if digit != '-' {
				f = f.Mul(frac.Whole(10)).Add(frac.Whole(int(digit - '0')))
			}
		}
		return f.Mul(frac.Whole(n.Sign()))
	}
	for _, c := range p {
		f, _ := whole(c.Num()).Div(whole(c.Denom()))
		out = append(out, f)
	}
	return out
}

// wantTold fails unless Yields answers what the document asks, and leaves the payments as they were.
func wantTold(t *testing.T, p poly, bits int) {
	t.Helper()
	pay := payments(p)
	words := frac.Words(pay)
	wantSpans(t, pay, bits, told(p, bits))
	if frac.Words(pay) != words {
		t.Errorf("%s became %s", words, frac.Words(pay))
	}
}

// 4.4: polynomials of any coefficients, against the document's own way.
func TestYieldsOfAll(t *testing.T) {
	r := rand.New(rand.NewSource(45))
	for range 1500 {
		var p poly
		for range 1 + r.Intn(7) {
			p = append(p, big.NewRat(int64(r.Intn(41)-20), int64(1+r.Intn(3)*r.Intn(5))))
		}
		p = append(p, big.NewRat(int64(1+r.Intn(9))*int64(1-2*r.Intn(2)), 1))
		wantTold(t, p, r.Intn(13))
	}
}

// 4.4: all polynomials of small whole coefficients.
func TestYieldsOfSmall(t *testing.T) {
	const most = 3
	for n := range 7 * 7 * 7 * 7 {
		p := poly{}
		for k := n; len(p) < 4; k /= 7 {
			p = append(p, big.NewRat(int64(k%7-most), 1))
		}
		if len(p.trimmed()) == 0 {
			continue
		}
		wantTold(t, p, n%4)
	}
}

// factor is a polynomial with a root at over / under.
func factor(over, under int) poly {
	return poly{big.NewRat(int64(-over), 1), big.NewRat(int64(under), 1)}
}

// 4.4: products: roots near each other, multiple ones, at ends of spans, at 0, below it, and such as are no real numbers.
func TestYieldsOfProducts(t *testing.T) {
	r := rand.New(rand.NewSource(46))
	for range 500 {
		p := poly{big.NewRat(int64(1+r.Intn(5)), int64(1+r.Intn(5)))}
		for range 1 + r.Intn(4) {
			q := factor(r.Intn(33)-4, 1<<r.Intn(5))
			switch r.Intn(5) {
			case 0:
				q = factor(r.Intn(40), 1+r.Intn(30))
			case 1: // (v - a)^2 + b, b of either sign
				a, b := big.NewRat(int64(r.Intn(20)), int64(1+r.Intn(8))), big.NewRat(int64(r.Intn(3)-1), int64(1+r.Intn(100000)))
				q = poly{b.Add(b, new(big.Rat).Mul(a, a)), new(big.Rat).Mul(a, big.NewRat(-2, 1)), big.NewRat(1, 1)}
			}
			for range 1 + r.Intn(3)*r.Intn(2) {
				p = p.times(q)
			}
		}
		wantTold(t, p, r.Intn(12))
	}
}

// 4.4: a span in which a root is alone is not halved further, even if others, which are no real numbers, are near; two roots far closer than bits are parted.
func TestYieldsNear(t *testing.T) {
	for _, c := range []struct{ a, b int64 }{{3, 1}, {3, 100}, {2, 1}, {4, 3}, {7, 5}, {1, 1}} {
		for _, tiny := range []int64{10, 1000, 1_000_000, 1_000_000_000_000} {
			for _, sign := range []int64{1, -1} {
				a := big.NewRat(c.b, c.a)
				pair := poly{new(big.Rat).Add(new(big.Rat).Mul(a, a), big.NewRat(sign, tiny)), new(big.Rat).Mul(a, big.NewRat(-2, 1)), big.NewRat(1, 1)}
				for _, bits := range []int{0, 1, 5, 30} {
					wantTold(t, pair, bits)
					wantTold(t, pair.times(factor(int(c.b), int(c.a))), bits)
					wantTold(t, pair.times(factor(int(c.b)+1, int(c.a))), bits)
				}
			}
		}
	}
	// (v - 1/2) ((v - 1/2)^2 + 1/1000000): one root alone
	p := factor(1, 2).times(poly{big.NewRat(250001, 1000000), big.NewRat(-1, 1), big.NewRat(1, 1)})
	wantSpans(t, payments(p), 0, "0 1")
	wantSpans(t, payments(p), 2, "1/4 1/2")
}

// 4.4: as many payments as may be, with as many roots, and as many bits.
func TestYieldsMost(t *testing.T) {
	p, q := poly{big.NewRat(1, 1)}, poly{big.NewRat(1, 1)}
	var asked, askedToo []string
	for k := range 20 {
		p = p.times(factor(k+1, 1))
		q = q.times(factor(1, 20-k))
		asked = append(asked, fmt.Sprint(k, " ", k+1))
		high := new(big.Int).Lsh(big.NewInt(1), 64) // the least multiple of 2^-64 that is not below the root
		high.Add(high, big.NewInt(int64(20-k-1))).Div(high, big.NewInt(int64(20-k)))
		low := new(big.Int).Sub(high, big.NewInt(1))
		under := new(big.Int).Lsh(big.NewInt(1), 64)
		askedToo = append(askedToo, new(big.Rat).SetFrac(low, under).RatString()+" "+new(big.Rat).SetFrac(high, under).RatString())
	}
	wantSpans(t, payments(p), 0, strings.Join(asked, "; "))
	wantSpans(t, payments(q), 64, strings.Join(askedToo, "; "))
	// ten of them, each twice
	twice := poly{big.NewRat(1, 1)}
	for k := range 10 {
		twice = twice.times(factor(k+1, 1)).times(factor(k+1, 1))
	}
	wantSpans(t, payments(twice), 0, strings.Join(asked[:10], "; "))
	// all the same one
	same := poly{big.NewRat(1, 1)}
	for range 20 {
		same = same.times(factor(2, 3))
	}
	wantSpans(t, payments(same), 2, "1/2 3/4")
}

// 4.4: roots that are very near each other (Mignotte), very great and very small ones, and long fractions.
func TestYieldsLong(t *testing.T) {
	ten, _ := frac.Whole(10).Pow(30)
	near := make([]frac.Frac, 21)
	near[0], near[1], near[2], near[20] = frac.Whole(-2), ten.Mul(frac.Whole(4)), ten.Mul(ten).Mul(frac.Whole(-2)), frac.Whole(1)
	l, err := flow.Yields(near, 64)
	if err != nil || len(l) != 3 || l[0].High.Cmp(l[1].Low) > 0 || l[1].High.Cmp(l[2].Low) > 0 {
		t.Errorf("%s, %v", written(l), err)
	}
	for _, s := range l {
		if worth(near, s.Low).Sign()*worth(near, s.High).Sign() > 0 {
			t.Errorf("no root from %s to %s", s.Low.Text(), s.High.Text())
		}
	}
	wantSpans(t, []frac.Frac{ten.Neg(), frac.Whole(1)}, 0, ten.Sub(frac.Whole(1)).Text()+" "+ten.Text())
	wantSpans(t, []frac.Frac{frac.Whole(-1), ten}, 64, "0 1/18446744073709551616")
	wantSpans(t, []frac.Frac{ten, ten.Add(frac.Whole(1)).Neg(), frac.Whole(1)}, 0, "0 1; "+ten.Sub(frac.Whole(1)).Text()+" "+ten.Text())
	r := rand.New(rand.NewSource(47))
	var long []frac.Frac
	for k := range 21 {
		f := drawnLong(r, 60)
		if k%3 == 1 {
			f = f.Neg()
		}
		long = append(long, f)
	}
	l, err = flow.Yields(long, 64)
	if err != nil {
		t.Fatal(err)
	}
	for _, s := range l {
		if worth(long, s.Low).Sign()*worth(long, s.High).Sign() >= 0 || s.High.Sub(s.Low).Cmp(one(t, "1/18446744073709551616")) != 0 {
			t.Errorf("no root from %s to %s", s.Low.Text(), s.High.Text())
		}
	}
	wantTold(t, poly(rats(t, long[:5])), 20)
}

// worth is what payments are worth at a discount.
func worth(pay []frac.Frac, v frac.Frac) frac.Frac {
	var sum frac.Frac
	power := frac.Whole(1)
	for _, p := range pay {
		sum = sum.Add(p.Mul(power))
		power = power.Mul(v)
	}
	return sum
}
