package fund_test

import (
	"math/big"
	"math/rand"
	"reflect"
	"slices"
	"strings"
	"testing"

	"tontine/api"
	"tontine/frac"
	"tontine/fund"
)

const (
	leastInt    = -1 << 63
	greatestInt = 1<<63 - 1
)

// wantError fails unless there is just this error, without a place, and the other results are their zero values.
func wantError(t *testing.T, what string, err error, e api.Errno, others ...any) {
	t.Helper()
	if err != error(e) {
		t.Errorf("%s: %v, not %v", what, err, e)
	}
	for _, other := range others {
		if !reflect.ValueOf(other).IsZero() {
			t.Errorf("%s: %v beside an error", what, other)
		}
	}
}

// wantStates fails unless states are these, without an error.
func wantStates(t *testing.T, what string, l []fund.State, err error, states ...fund.State) {
	t.Helper()
	if err != nil {
		t.Errorf("%s: %v", what, err)
	}
	if len(l) != len(states) {
		t.Errorf("%s: %d states, not %d", what, len(l), len(states))
		return
	}
	for i, s := range l {
		if !reflect.DeepEqual(s, states[i]) {
			t.Errorf("%s: state %d: %v, not %v", what, i, s, states[i])
		}
	}
}

// one is the fraction of a text.
func one(t *testing.T, text string) frac.Frac {
	t.Helper()
	f, err := frac.Parse(text)
	if err != nil {
		t.Fatalf("Parse(%q): %v", text, err)
	}
	return f
}

// fracs are those of a text, with blanks between.
func fracs(t *testing.T, text string) []frac.Frac {
	t.Helper()
	var l []frac.Frac
	for _, w := range strings.Fields(text) {
		l = append(l, one(t, w))
	}
	return l
}

// year is one of texts: its rate, what is paid, and who dies.
func year(t *testing.T, rate, pay string, dead ...int) fund.Year {
	t.Helper()
	return fund.Year{Rate: one(t, rate), Dead: dead, Pay: one(t, pay)}
}

// many is a fund of so many members, each with the same stake and risk.
func many(t *testing.T, members, stake, by int) fund.Fund {
	t.Helper()
	f := fund.Fund{Stakes: slices.Repeat([]int{stake}, members), By: by}
	if by == 2 {
		f.Risks = slices.Repeat(fracs(t, "1/2"), members)
	}
	return f
}

// drawnFund has so many members.
func drawnFund(r *rand.Rand, members int) fund.Fund {
	f := fund.Fund{By: r.Intn(3)}
	for range members {
		f.Stakes = append(f.Stakes, 1+r.Intn(1+r.Intn(1000)))
		if f.By == 2 {
			under := 2 + r.Intn(30)
			risk, _ := frac.Of(1+r.Intn(under-1), under)
			f.Risks = append(f.Risks, risk)
		}
	}
	return f
}

// drawnYears are some, in which members die (some of them twice), in which all is paid out at times.
func drawnYears(r *rand.Rand, members int) []fund.Year {
	var l []fund.Year
	for range r.Intn(8) {
		y := fund.Year{Rate: drawnPart(r), Pay: drawnPart(r)}
		for range r.Intn(4) {
			y.Dead = append(y.Dead, r.Intn(members))
		}
		l = append(l, y)
	}
	return l
}

// drawnPart is a fraction from 0 to 1.
func drawnPart(r *rand.Rand) frac.Frac {
	under := 1 + r.Intn(30)
	f, _ := frac.Of(r.Intn(under+1), under)
	return f
}

// drawnTapes are some rows of years.
func drawnTapes(r *rand.Rand, members int) [][]fund.Year {
	tapes := make([][]fund.Year, r.Intn(20))
	for i := range tapes {
		tapes[i] = drawnYears(r, members)
	}
	return tapes
}

// rat is a fraction of the library.
func rat(f frac.Frac) *big.Rat {
	x, _ := new(big.Rat).SetString(f.Text())
	return x
}

// times is a part of units, rounded down.
func times(units int, f frac.Frac) int {
	x := new(big.Rat).Mul(new(big.Rat).SetInt64(int64(units)), rat(f))
	return int(new(big.Int).Div(x.Num(), x.Denom()).Int64())
}

// sum is of all.
func sum(l []int) int {
	n := 0
	for _, x := range l {
		n += x
	}
	return n
}

// states are those of years by the document's words, one by one.
func states(f fund.Fund, years []fund.Year) []fund.State {
	now := fund.State{Have: slices.Clone(f.Stakes), Paid: make([]int, len(f.Stakes)), Come: sum(f.Stakes)}
	var dead []int
	all := []fund.State{copyOf(now)}
	for _, y := range years {
		for i, have := range now.Have {
			more := times(have, y.Rate)
			now.Have[i] += more
			now.Come += more
		}
		left := 0
		for _, i := range y.Dead {
			if slices.Contains(dead, i) {
				continue
			}
			dead = append(dead, i)
			left += now.Have[i]
			now.Have[i] = 0
		}
		give(f, &now, dead, left)
		for i, have := range now.Have {
			out := times(have, y.Pay)
			now.Have[i] -= out
			now.Paid[i] += out
		}
		all = append(all, copyOf(now))
	}
	return all
}

// give shares what was left, one unit after the other.
func give(f fund.Fund, now *fund.State, dead []int, left int) {
	weights, all := make([]*big.Rat, len(now.Have)), new(big.Rat)
	for i, have := range now.Have {
		weights[i] = new(big.Rat)
		if slices.Contains(dead, i) {
			continue
		}
		weights[i].SetInt64(int64(have))
		switch f.By {
		case 1:
			weights[i].SetInt64(1)
		case 2:
			weights[i].Mul(weights[i], rat(f.Risks[i]))
		}
		all.Add(all, weights[i])
	}
	if all.Sign() == 0 {
		now.Left += left
		return
	}
	rest, cut := left, make([]*big.Rat, len(weights))
	for i, w := range weights {
		share := new(big.Rat).Mul(new(big.Rat).SetInt64(int64(left)), new(big.Rat).Quo(w, all))
		whole := new(big.Int).Div(share.Num(), share.Denom())
		cut[i] = share.Sub(share, new(big.Rat).SetInt(whole))
		now.Have[i] += int(whole.Int64())
		rest -= int(whole.Int64())
	}
	for ; rest > 0; rest-- {
		most := 0
		for i, c := range cut {
			if c.Cmp(cut[most]) > 0 {
				most = i
			}
		}
		now.Have[most]++
		cut[most] = new(big.Rat).SetInt64(-1)
	}
}

// copyOf shares nothing with a state.
func copyOf(s fund.State) fund.State {
	s.Have, s.Paid = slices.Clone(s.Have), slices.Clone(s.Paid)
	return s
}
