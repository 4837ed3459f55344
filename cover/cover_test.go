package cover_test

import (
	"fmt"
	"slices"
	"testing"

	"tontine/api"
	"tontine/chain"
	"tontine/cover"
	"tontine/frac"
)

// answers is all that a cover tells, as a text.
func answers(t *testing.T, c *cover.Cover, states, years int) string {
	t.Helper()
	text := ""
	tell := func(f frac.Frac, err error) { text += fmt.Sprint(f.Text(), " ", api.Tell(err), "; ") }
	premium := one(t, "17/3")
	tell(c.Premium())
	for year := range years + 2 {
		tell(c.Saved(premium, year))
		for state := range states + 1 {
			tell(c.Benefits(year, state))
			tell(c.Premiums(year, state))
			tell(c.Reserve(premium, year, state))
		}
	}
	variance, parts := c.Spread(premium)
	text += variance.Text() + ": " + frac.Words(parts)
	paths, err := c.Paths(premium)
	for _, p := range paths {
		text += fmt.Sprint("; ", p.States, p.Chance.Text(), " ", p.Loss.Text())
	}
	return text + fmt.Sprint(api.Tell(err))
}

// DOC.md, example 5.
func TestExample(t *testing.T) {
	c := term(t).made(t)
	premium, err := c.Premium()
	want(t, "Premium", premium, err, "1654000/7693")
	f, err := c.Reserve(premium, 1, 0)
	want(t, "Reserve behind one year", f, err, "1382000/9891")
	f, err = c.Reserve(premium, 3, 0)
	want(t, "Reserve behind three", f, err, "0")
}

// 5.1: what New refuses, each thing alone.
func TestNewErrors(t *testing.T) {
	good := ill(t).asked(t)
	for _, s := range []struct {
		what string
		turn func(c *cover.Cover)
		e    api.Errno
	}{
		{"no chain", func(c *cover.Cover) { c.Chain = nil }, api.ErrArg},
		{"Start -1", func(c *cover.Cover) { c.Start = -1 }, api.ErrRange},
		{"Start 3", func(c *cover.Cover) { c.Start = 3 }, api.ErrRange},
		{"the least Start", func(c *cover.Cover) { c.Start = leastInt }, api.ErrRange},
		{"the greatest Start", func(c *cover.Cover) { c.Start = greatestInt }, api.ErrRange},
		{"no rates", func(c *cover.Cover) { c.Rates = nil }, api.ErrForm},
		{"a rate too few", func(c *cover.Cover) { c.Rates = fracs(t, "5% 5%") }, api.ErrForm},
		{"a rate too many", func(c *cover.Cover) { c.Rates = fracs(t, "5% 5% 5% 5%") }, api.ErrForm},
		{"far too many rates", func(c *cover.Cover) { c.Rates = make([]frac.Frac, api.MaxYears+1) }, api.ErrForm},
		{"no Stay", func(c *cover.Cover) { c.Stay = nil }, api.ErrForm},
		{"a Stay too few", func(c *cover.Cover) { c.Stay = fracs(t, "1 2") }, api.ErrForm},
		{"a Stay too many", func(c *cover.Cover) { c.Stay = fracs(t, "1 2 3 4") }, api.ErrForm},
		{"no End", func(c *cover.Cover) { c.End = nil }, api.ErrForm},
		{"an End too few", func(c *cover.Cover) { c.End = fracs(t, "1 2") }, api.ErrForm},
		{"an End too many", func(c *cover.Cover) { c.End = fracs(t, "1 2 3 4") }, api.ErrForm},
		{"no Pay", func(c *cover.Cover) { c.Pay = []frac.Frac{} }, api.ErrForm},
		{"a Pay too few", func(c *cover.Cover) { c.Pay = fracs(t, "1 2") }, api.ErrForm},
		{"a Pay too many", func(c *cover.Cover) { c.Pay = fracs(t, "1 2 3 4") }, api.ErrForm},
		{"no Move", func(c *cover.Cover) { c.Move = nil }, api.ErrForm},
		{"a row too few", func(c *cover.Cover) { c.Move = rows(t, "1 2 3;1 2 3") }, api.ErrForm},
		{"a row too many", func(c *cover.Cover) { c.Move = rows(t, "1 2 3;1 2 3;1 2 3;1 2 3") }, api.ErrForm},
		{"no first row", func(c *cover.Cover) { c.Move = rows(t, ";1 2 3;1 2 3") }, api.ErrForm},
		{"a short last row", func(c *cover.Cover) { c.Move = rows(t, "1 2 3;1 2 3;1 2") }, api.ErrForm},
		{"a long row", func(c *cover.Cover) { c.Move = rows(t, "1 2 3;1 2 3 4;1 2 3") }, api.ErrForm},
		{"a rate of -1", func(c *cover.Cover) { c.Rates = fracs(t, "0 0 -1") }, api.ErrArg},
		{"a rate below -1", func(c *cover.Cover) { c.Rates = fracs(t, "-7/2 0 0") }, api.ErrArg},
		{"a rate just below -1", func(c *cover.Cover) { c.Rates = fracs(t, "0 -1000000000000000000000001/1000000000000000000000000 0") }, api.ErrArg},
	} {
		wrong := good
		s.turn(&wrong)
		c, err := cover.New(wrong)
		wantError(t, s.what, err, s.e, c)
	}
	c, err := cover.New(cover.Cover{})
	wantError(t, "nothing at all", err, api.ErrArg, c)
}

// 5.1: of several errors the first one that is told.
func TestNewErrorsInOrder(t *testing.T) {
	wrong := cover.Cover{Start: -1, Rates: fracs(t, "-1")}
	c, err := cover.New(wrong)
	wantError(t, "all is wrong", err, api.ErrArg, c)
	wrong.Chain = ill(t).asked(t).Chain
	c, err = cover.New(wrong)
	wantError(t, "a chain, but Start is wrong", err, api.ErrRange, c)
	wrong.Start = 2
	c, err = cover.New(wrong)
	wantError(t, "lengths are wrong, and a rate", err, api.ErrForm, c)
	for what, turn := range map[string]func(c *cover.Cover){
		"Stay": func(c *cover.Cover) { c.Stay = nil }, "Move": func(c *cover.Cover) { c.Move = rows(t, "1 2 3;1 2 3;") }, "End": func(c *cover.Cover) { c.End = nil }, "Pay": func(c *cover.Cover) { c.Pay = nil },
	} {
		wrong = ill(t).asked(t)
		wrong.Rates = fracs(t, "-1 -1 -1")
		turn(&wrong)
		c, err = cover.New(wrong)
		wantError(t, what+" and a rate are wrong", err, api.ErrForm, c)
	}
}

// 5.1: rates just above -1, amounts of either sign and any size, one state, one year, as many as may be.
func TestNewAtTheEdges(t *testing.T) {
	p := promised(t, "1", "-999999999999999999999/1000000000000000000000", 0, "-5", "123456789012345678901234567890/7", "-1/3", "0")
	f, err := p.made(t).Benefits(0, 0)
	want(t, "one state, one year", f, err, "52910052433862433814814814808999999999999999999985/3")
	var years []chain.Matrix
	for range api.MaxYears {
		m := make(chain.Matrix, api.MaxStates)
		for i := range m {
			m[i] = make([]frac.Frac, api.MaxStates)
			m[i][(i+1)%api.MaxStates] = frac.Whole(1)
		}
		years = append(years, m)
	}
	n := make([]frac.Frac, api.MaxStates)
	stay := slices.Clone(n)
	stay[3] = frac.Whole(1)
	p = promise{years, 7, make([]frac.Frac, api.MaxYears), stay, n, n, slices.Repeat([][]frac.Frac{n}, api.MaxStates)}
	f, err = p.made(t).Benefits(0, 7)
	want(t, "round and round", f, err, "15")
}

// P4: New's cover has the fields as they were, in memory of its own, and goes by them whatever becomes of either.
func TestNewKeepsNothing(t *testing.T) {
	p := ill(t)
	asked := p.asked(t)
	c, err := cover.New(asked)
	if err != nil {
		t.Fatal(err)
	}
	before := answers(t, c, 3, 3)
	text := func(c cover.Cover) string {
		s := fmt.Sprint(c.Start, c.Chain.States(), c.Chain.Years())
		for _, l := range append([][]frac.Frac{c.Rates, c.Stay, c.End, c.Pay}, c.Move...) {
			s += "; " + frac.Words(l)
		}
		return s
	}
	fields := text(asked)
	if text(*c) != fields {
		t.Errorf("New gave %s, not %s", text(*c), fields)
	}
	spoil := func(c *cover.Cover) {
		for _, l := range append([][]frac.Frac{c.Rates, c.Stay, c.End, c.Pay}, c.Move...) {
			for i := range l {
				l[i] = frac.Whole(-7)
			}
		}
		*c.Chain = *term(t).asked(t).Chain
	}
	spoil(&asked)
	if text(*c) != fields {
		t.Errorf("the fields became %s, not %s", text(*c), fields)
	}
	if after := answers(t, c, 3, 3); after != before {
		t.Errorf("what was handed in counts: %s, not %s", after, before)
	}
	spoil(c)
	c.Chain, c.Start, c.Rates, c.Stay, c.Move, c.End, c.Pay = nil, -9, nil, nil, nil, nil, nil
	if after := answers(t, c, 3, 3); after != before {
		t.Errorf("what was handed out counts: %s, not %s", after, before)
	}
}

// P4: nothing that is handed in is written into, nor what stands behind it; what comes out shares nothing.
func TestNewWritesNothing(t *testing.T) {
	p := ill(t)
	room := func(l []frac.Frac) []frac.Frac { return append(slices.Clone(l), frac.Whole(99), frac.Whole(98)) }
	asked := p.asked(t)
	rates, stay, end, pay := room(p.rates), room(p.stay), room(p.end), room(p.pay)
	move := append(slices.Clone(p.move), fracs(t, "97"))
	row := room(p.move[0])
	move[0] = row[:3]
	asked.Rates, asked.Stay, asked.End, asked.Pay, asked.Move = rates[:3], stay[:3], end[:3], pay[:3], move[:3]
	all := func() string {
		return frac.Words(slices.Concat(rates, stay, end, pay, row, move[0], move[1], move[2], move[3]))
	}
	before := all()
	c, err := cover.New(asked)
	if err != nil {
		t.Fatal(err)
	}
	answers(t, c, 3, 3)
	if all() != before {
		t.Errorf("it became %s, not %s", all(), before)
	}
	lists := append([][]frac.Frac{c.Rates, c.Stay, c.End, c.Pay}, c.Move...)
	for n, l := range lists {
		_ = append(l, frac.Whole(1000+n))
		for i := range l {
			l[i] = frac.Whole(n)
		}
	}
	for n, l := range lists {
		for i := range l {
			want(t, fmt.Sprint("list ", n), l[i], nil, frac.Whole(n).Text())
		}
	}
	if all() != before {
		t.Errorf("it became %s, not %s", all(), before)
	}
}

// 5.1: New goes by the fields alone, also of what New gave.
func TestNewOfWhatNewGave(t *testing.T) {
	c := ill(t).made(t)
	again, err := cover.New(*c)
	if err != nil {
		t.Fatal(err)
	}
	if a, b := answers(t, again, 3, 3), answers(t, c, 3, 3); a != b {
		t.Errorf("%s, not %s", a, b)
	}
	other := *c
	other.Start, other.Stay = 1, fracs(t, "1 2 3")
	changed, err := cover.New(other)
	if err != nil {
		t.Fatal(err)
	}
	p := ill(t)
	p.start, p.stay = 1, fracs(t, "1 2 3")
	if a, b := answers(t, changed, 3, 3), answers(t, p.made(t), 3, 3); a != b {
		t.Errorf("%s, not %s", a, b)
	}
}
