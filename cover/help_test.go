package cover_test

import (
	"math/big"
	"math/rand"
	"reflect"
	"strings"
	"testing"

	"tontine/api"
	"tontine/chain"
	"tontine/cover"
	"tontine/frac"
)

const (
	leastInt    = -1 << 63
	greatestInt = 1<<63 - 1
)

// wantError fails unless there is just this error, without a place, and the other results are their zero values.
func wantError(t *testing.T, what string, err error, e api.Errno, others ...any) {
	t.Helper()
	if err != error(e) {
		t.Errorf("%s: %v, not %v", what, err, e)
	}
	for _, x := range others {
		if !reflect.ValueOf(x).IsZero() {
			t.Errorf("%s: %v beside an error", what, x)
		}
	}
}

// want fails unless a fraction is written so, without an error.
func want(t *testing.T, what string, f frac.Frac, err error, text string) {
	t.Helper()
	if err != nil {
		t.Errorf("%s: %v", what, err)
	}
	if f.Text() != text {
		t.Errorf("%s: %s, not %s", what, f.Text(), text)
	}
}

// fracs are the fractions of a text, with blanks between.
func fracs(t *testing.T, text string) []frac.Frac {
	t.Helper()
	var l []frac.Frac
	for _, w := range strings.Fields(text) {
		f, err := frac.Parse(w)
		if err != nil {
			t.Fatalf("Parse(%q): %v", w, err)
		}
		l = append(l, f)
	}
	return l
}

// one is the fraction of a text.
func one(t *testing.T, text string) frac.Frac {
	t.Helper()
	return fracs(t, text)[0]
}

// rows are rows of fractions with ; between.
func rows(t *testing.T, text string) [][]frac.Frac {
	t.Helper()
	var l [][]frac.Frac
	for _, row := range strings.Split(text, ";") {
		l = append(l, fracs(t, row))
	}
	return l
}

// promise is what a cover is made of, with the matrices of the years.
type promise struct {
	years          []chain.Matrix
	start          int
	rates          []frac.Frac
	stay, end, pay []frac.Frac
	move           [][]frac.Frac
}

// promised is a promise of texts; matrices have | between.
func promised(t *testing.T, years, rates string, start int, stay, move, end, pay string) promise {
	t.Helper()
	p := promise{start: start, rates: fracs(t, rates), stay: fracs(t, stay), end: fracs(t, end), pay: fracs(t, pay), move: rows(t, move)}
	for _, m := range strings.Split(years, "|") {
		p.years = append(p.years, rows(t, m))
	}
	return p
}

// asked is a promise as New is asked for it.
func (p promise) asked(t *testing.T) cover.Cover {
	t.Helper()
	c, err := chain.New(p.years)
	if err != nil {
		t.Fatal(err)
	}
	return cover.Cover{Chain: c, Start: p.start, Rates: p.rates, Stay: p.stay, Move: p.move, End: p.end, Pay: p.pay}
}

// made is a promise's cover.
func (p promise) made(t *testing.T) *cover.Cover {
	t.Helper()
	c, err := cover.New(p.asked(t))
	if err != nil {
		t.Fatal(err)
	}
	return c
}

// term is the document's fifth example: 1000 at the end of the year of death, by the table of its second one.
func term(t *testing.T) promise {
	t.Helper()
	return promised(t, "9/10 1/10;0 1|7/9 2/9;0 1|4/7 3/7;0 1", "5% 5% 5%", 0, "0 0", "0 1000;0 0", "0 0", "1 0")
}

// ill is a promise of three states (well, ill, dead), in which all kinds of amounts are paid.
func ill(t *testing.T) promise {
	t.Helper()
	return promised(t, "4/5 1/10 1/10;1/2 1/4 1/4;0 0 1|3/4 1/8 1/8;1/3 1/3 1/3;0 0 1|1/2 1/4 1/4;0 1/2 1/2;0 0 1", "5% 1/10 0", 0, "0 12 0", "0 3 100;-1/2 0 90;0 0 0", "50 40 0", "1 1/3 0")
}

// drawnAmounts are so many, many of them 0, some below.
func drawnAmounts(r *rand.Rand, n int) []frac.Frac {
	l := make([]frac.Frac, n)
	for i := range n {
		if r.Intn(3) > 0 {
			l[i], _ = frac.Of(r.Intn(300)-50, 1+r.Intn(12))
		}
	}
	return l
}

// drawnChances are chances of n states, many of them 0, over some lower number.
func drawnChances(r *rand.Rand, n int) []frac.Frac {
	row := make([]frac.Frac, n)
	under := 1 + r.Intn(30)
	for left := under; left > 0; {
		part := 1 + r.Intn(left)
		f, _ := frac.Of(part, under)
		k := r.Intn(n)
		row[k] = row[k].Add(f)
		left -= part
	}
	return row
}

// drawn is a promise of n states and so many years.
func drawn(r *rand.Rand, n, years int) promise {
	p := promise{start: r.Intn(n), stay: drawnAmounts(r, n), end: drawnAmounts(r, n), pay: drawnAmounts(r, n)}
	for range years {
		var m chain.Matrix
		for range n {
			m = append(m, drawnChances(r, n))
		}
		p.years = append(p.years, m)
		rate, _ := frac.Of(r.Intn(60)-10, 20+r.Intn(100))
		p.rates = append(p.rates, rate)
	}
	for range n {
		p.move = append(p.move, drawnAmounts(r, n))
	}
	return p
}

// drawnPremium is a premium of either sign.
func drawnPremium(r *rand.Rand) frac.Frac {
	f, _ := frac.Of(r.Intn(200)-60, 1+r.Intn(30))
	return f
}

// rat is a fraction as the library has it.
func rat(t *testing.T, f frac.Frac) *big.Rat {
	t.Helper()
	r, ok := new(big.Rat).SetString(f.Text())
	if !ok {
		t.Fatalf("%q is no fraction", f.Text())
	}
	return r
}

// wantRat fails unless a fraction is what the library reckons, without an error.
func wantRat(t *testing.T, what string, f frac.Frac, err error, r *big.Rat) {
	t.Helper()
	if err != nil {
		t.Errorf("%s: %v", what, err)
	}
	if rat(t, f).Cmp(r) != 0 {
		t.Errorf("%s: %s, not %s", what, f.Text(), r.RatString())
	}
}

func plus(a, b *big.Rat) *big.Rat  { return new(big.Rat).Add(a, b) }
func minus(a, b *big.Rat) *big.Rat { return new(big.Rat).Sub(a, b) }
func times(a, b *big.Rat) *big.Rat { return new(big.Rat).Mul(a, b) }
func over(a, b *big.Rat) *big.Rat  { return new(big.Rat).Quo(a, b) }

// way is one on which states follow each other, with what is paid out and in at each time from the first state's on.
type way struct {
	states  []int
	chance  *big.Rat
	out, in []*big.Rat
}

// ways are all from a state at a time up to another time, in order; of the year that begins then nothing is paid, at the end of the last year End is, if last.
func (p promise) ways(t *testing.T, state, from, to int, last bool) []way {
	t.Helper()
	l := []way{{[]int{state}, big.NewRat(1, 1), []*big.Rat{new(big.Rat)}, []*big.Rat{new(big.Rat)}}}
	for year := from; year < to; year++ {
		var next []way
		for _, w := range l {
			next = append(next, p.further(t, w, year)...)
		}
		l = next
	}
	for _, w := range l {
		n := len(w.states) - 1
		if last && to == len(p.years) {
			w.out[n] = plus(w.out[n], rat(t, p.end[w.states[n]]))
		}
	}
	return l
}

// further are the ways behind a year, of one ahead of it.
func (p promise) further(t *testing.T, w way, year int) []way {
	t.Helper()
	var l []way
	n := len(w.states) - 1
	i := w.states[n]
	for k := range p.stay {
		chance := p.years[year][i][k]
		if chance.Sign() == 0 {
			continue
		}
		next := way{append(append([]int{}, w.states...), k), times(w.chance, rat(t, chance)), append([]*big.Rat{}, w.out...), append([]*big.Rat{}, w.in...)}
		next.out[n] = plus(next.out[n], rat(t, p.stay[i]))
		next.in[n] = plus(next.in[n], rat(t, p.pay[i]))
		next.out = append(next.out, rat(t, p.move[i][k]))
		next.in = append(next.in, new(big.Rat))
		l = append(l, next)
	}
	return l
}

// growth is what one unit becomes from one time to a later one.
func (p promise) growth(t *testing.T, from, to int) *big.Rat {
	t.Helper()
	g := big.NewRat(1, 1)
	for _, rate := range p.rates[from:to] {
		g.Mul(g, plus(big.NewRat(1, 1), rat(t, rate)))
	}
	return g
}

// worth is what payments are worth at the first one's time.
func (p promise) worth(t *testing.T, pay []*big.Rat, from int) *big.Rat {
	t.Helper()
	all := new(big.Rat)
	for n, x := range pay {
		all.Add(all, over(x, p.growth(t, from, from+n)))
	}
	return all
}

// mean is that of an amount of each way.
func mean(l []way, of func(way) *big.Rat) *big.Rat {
	all := new(big.Rat)
	for _, w := range l {
		all.Add(all, times(w.chance, of(w)))
	}
	return all
}

// toCome are what is paid out and in from a time on, in the mean, in a state.
func (p promise) toCome(t *testing.T, time, state int) (out, in *big.Rat) {
	t.Helper()
	l := p.ways(t, state, time, len(p.years), true)
	out = mean(l, func(w way) *big.Rat { return p.worth(t, w.out, time) })
	in = mean(l, func(w way) *big.Rat { return p.worth(t, w.in, time) })
	return out, in
}

// loss is what is lost on a way from the start.
func (p promise) loss(t *testing.T, w way, premium frac.Frac) *big.Rat {
	t.Helper()
	return minus(p.worth(t, w.out, 0), times(rat(t, premium), p.worth(t, w.in, 0)))
}
