package bonus_test

import (
	"fmt"
	"math/big"
	"math/rand"
	"strings"
	"testing"

	"tontine/api"
	"tontine/bonus"
	"tontine/chain"
	"tontine/claims"
	"tontine/frac"
)

// told is a matrix as a text.
func told(m chain.Matrix) string {
	var rows []string
	for _, row := range m {
		rows = append(rows, frac.Words(row))
	}
	return strings.Join(rows, ";")
}

// 12.2: what is wrong with a law, said of a scale that may be.
func TestLaws(t *testing.T) {
	for _, c := range []struct {
		what string
		l    claims.Law
		e    api.Errno
	}{
		{"nil", nil, api.ErrLimit},
		{"no numbers", claims.Law{}, api.ErrLimit},
		{"a number too many, which is a nought", sure(0, api.MaxSize+1), api.ErrLimit},
		{"far too many", make(claims.Law, 100000), api.ErrLimit},
		{"below 0", fracs(t, "-1/2 3/2"), api.ErrArg},
		{"below 0, not 1 together", fracs(t, "1 1 -1/2"), api.ErrArg},
		{"below 0 where no level looks", fracs(t, "1 0 0 0 1 -1"), api.ErrArg},
		{"noughts", fracs(t, "0 0"), api.ErrSum},
		{"less than 1 together", fracs(t, "1/2 1/3"), api.ErrSum},
		{"a little more than 1", fracs(t, "1/2 1/2 1/"+strings.Repeat("9", api.MaxDigits)), api.ErrSum},
	} {
		for _, s := range []bonus.Scale{stairs(t), still(2, 1)} { // the second has several closed classes
			m, err := bonus.Matrix(s, c.l)
			wantError(t, "Matrix, "+c.what, err, c.e, m)
			x, mean, err := bonus.Steady(s, c.l)
			wantError(t, "Steady, "+c.what, err, c.e, x, mean)
		}
	}
}

// 12.2: by hand.
func TestMatrixByHand(t *testing.T) {
	for _, c := range []struct{ after, law, text string }{
		{"0", "1", "1"},
		{"0", "1/2 1/4 1/4", "1"},
		{"1 0;2 0;2 1 0", "1/2 1/3 1/6", "1/2 1/2 0;1/2 0 1/2;1/6 1/3 1/2"},
		{"1 0;2 0;2 1 0", "1/2 1/4 1/8 1/8", "1/2 1/2 0;1/2 0 1/2;1/4 1/4 1/2"}, // the last number: or more
		{"1 0;2 0;2 1 0", "1/2 1/2", "1/2 1/2 0;1/2 0 1/2;0 1/2 1/2"},           // fewer numbers than levels tell
		{"1 0;2 0;2 1 0", "1", "0 1 0;0 0 1;0 0 1"},
		{"1 0;2 0;2 1 0", "1 0 0 0 0", "0 1 0;0 0 1;0 0 1"},
		{"1 0;2 0;2 1 0", "0 1", "1 0 0;1 0 0;0 1 0"},
		{"1 0;2 0;2 1 0", "0 0 0 0 1", "1 0 0;1 0 0;1 0 0"},
		{"1 1 1;0 1 0", "1/2 1/3 1/6", "0 1;2/3 1/3"}, // one level for several numbers
		{"0 1 0 1 0 1 0 1 0 1;1", "1/11 1/11 1/11 1/11 1/11 1/11 1/11 1/11 1/11 1/11 1/11", "5/11 6/11;0 1"},
	} {
		s := scale(t, c.after, strings.Repeat("1 ", strings.Count(c.after, ";")+1))
		m, err := bonus.Matrix(s, fracs(t, c.law))
		if err != nil || told(m) != c.text {
			t.Errorf("%s by %s: %s, %v, not %s", c.after, c.law, told(m), err, c.text)
		}
	}
}

// 12.2: number by number; and it is a matrix that may be.
func TestMatrixDrawn(t *testing.T) {
	r := rand.New(rand.NewSource(123))
	for i := range 200 {
		s := drawnScale(r, 1+r.Intn(api.MaxStates))
		l := drawnLaw(r, 1+r.Intn(14))
		if i%40 == 0 {
			l = drawnLaw(r, api.MaxSize+1)
		}
		m, err := bonus.Matrix(s, l)
		if err != nil || chain.Check(m) != nil || len(m) != len(s.After) {
			t.Fatalf("%v by %s: %v, %v, %v", s, frac.Words(l), m, err, chain.Check(m))
		}
		for level := range m {
			sums := make([]*big.Rat, len(m))
			for to := range sums {
				sums[to] = new(big.Rat)
			}
			for n, chance := range l {
				to, _ := bonus.Next(s, level, n)
				sums[to].Add(sums[to], rat(chance))
			}
			for to, sum := range sums {
				want(t, fmt.Sprint(s, frac.Words(l), level, to), m[level][to], nil, sum.RatString())
			}
		}
	}
}

// 12.2: by hand.
func TestSteadyByHand(t *testing.T) {
	for _, c := range []struct{ after, factors, law, text, mean string }{
		{"0", "7/2", "1/2 1/2", "1", "7/2"},
		{"1 0;2 0;2 1 0", "100 70 50", "1", "0 0 1", "50"},           // without claims up to the top
		{"1 0;2 0;2 1 0", "100 70 50", "0 1", "1 0 0", "100"},        // with one each year down
		{"1 0;2 0;2 1", "100 70 40", "1/2 1/2", "1/3 1/3 1/3", "70"}, // up and down alike
		{"1 0;1 0", "3 9", "2/3 1/3", "1/3 2/3", "7"},
		{"1 0;1 0", "0 0", "2/3 1/3", "1/3 2/3", "0"},
		{"1;0", "3 9", "2/3 1/3", "1/2 1/2", "6"}, // in turns
		{"1;2;1", "5 3 9", "1", "0 1/2 1/2", "6"}, // level 0 is left for good
		{"1;1", "5 1/3", "1", "0 1", "1/3"},
	} {
		s := scale(t, c.after, c.factors)
		x, mean, err := bonus.Steady(s, fracs(t, c.law))
		what := c.after + " by " + c.law
		wantRow(t, what, x, err, c.text)
		want(t, what, mean, err, c.mean)
	}
	for _, c := range []struct{ after, law string }{
		{"0;1", "1"},
		{"0 1;1", "1"}, // with claims 0 would be left, but none come
		{"1 0;0 1;2", "1/2 1/2"},
		{"0 1;0 1;2 2 1", "1/2 1/2"},
	} {
		s := scale(t, c.after, strings.Repeat("1 ", strings.Count(c.after, ";")+1))
		x, mean, err := bonus.Steady(s, fracs(t, c.law))
		wantError(t, "several, "+c.after, err, api.ErrMany, x, mean)
	}
}

// 12.2: a year leaves the row as it is, and the mean is that of the factors by it; several closed classes are told just as chain does.
func TestSteadyDrawn(t *testing.T) {
	r := rand.New(rand.NewSource(124))
	many := 0
	for i := range 300 {
		s := drawnScale(r, 1+r.Intn(api.MaxStates))
		l := drawnLaw(r, 1+r.Intn(5))
		if i%3 == 0 {
			l = sure(r.Intn(3), 0)
		}
		what := fmt.Sprint(s, " by ", frac.Words(l))
		m, _ := bonus.Matrix(s, l)
		_, told := chain.Steady(m)
		x, mean, err := bonus.Steady(s, l)
		if told != nil {
			many++
			wantError(t, what, err, api.ErrMany, x, mean)
			continue
		}
		if err != nil || len(x) != len(m) {
			t.Fatalf("%s: %v, %v", what, x, err)
		}
		all, paid := new(big.Rat), new(big.Rat)
		for to := range x {
			next := new(big.Rat)
			for from := range x {
				next.Add(next, new(big.Rat).Mul(rat(x[from]), rat(m[from][to])))
			}
			want(t, what, x[to], nil, next.RatString())
			all.Add(all, rat(x[to]))
			paid.Add(paid, new(big.Rat).Mul(rat(x[to]), rat(s.Factor[to])))
		}
		if all.RatString() != "1" {
			t.Errorf("%s: %s together", what, all.RatString())
		}
		want(t, what+", the mean", mean, nil, paid.RatString())
	}
	if many == 0 || many == 300 {
		t.Errorf("%d of 300 have several closed classes", many)
	}
}
