package flow

import (
	"slices"

	"tontine/api"
	"tontine/frac"
)

// Bounds of Yields.
const (
	mostPayments = 21
	mostBits     = 64
)

// Span is from above Low up to High, High too.
type Span struct{ Low, High frac.Frac }

// Yields are all discounts v above 0 at which payments are worth nothing (the k-th one being worth v to the power of k), each in a span of its own, no longer than 2 to the power of -bits; rising.
func Yields(pay []frac.Frac, bits int) ([]Span, error) {
	p := polynomial(pay).trimmed()
	switch {
	case len(p) == 0:
		return nil, api.ErrZero
	case len(p) > mostPayments:
		return nil, api.ErrLimit
	case bits < 0 || bits > mostBits:
		return nil, api.ErrRange
	}
	for p[0].Sign() == 0 { // what begins later is worth nothing at the same discounts above 0
		p = p[1:]
	}
	return search{p.simple(), power(frac.Whole(2), -bits)}.all(), nil
}

// search is for the roots of a polynomial that has no multiple ones, each in a span no longer than length.
type search struct {
	of     polynomial
	length frac.Frac
}

// all are the spans of all roots above 0. Whichever power of 2 the halving begins with, the spans up to 1, 2, 4 and so on, each above the one ahead, are among what it comes to. So they are gone through from below, as far as roots may be: the document's power may be far greater.
func (s search) all() []Span {
	top, near := frac.Whole(1), s.of
	found := s.roots(near, Span{High: top})
	for !near.within() {
		next := top.Add(top)
		found = append(found, s.roots(near.moved(), Span{top, next})...)
		top, near = next, near.doubled()
	}
	return found
}

// roots are the spans of all roots within one, rising; near is the polynomial as it is there: that above 0 up to 1 is all of it.
func (s search) roots(near polynomial, in Span) []Span {
	most := near.most()
	switch {
	case most == 0:
		return nil
	case most == 1:
		return []Span{s.narrowed(in)}
	}
	half, mid := near.halved(), middle(in)
	found := s.roots(half, Span{in.Low, mid})
	found = append(found, s.roots(half.moved(), Span{mid, in.High})...)
	if len(found) == 1 && s.short(in) { // it was alone, though most did not tell it
		return []Span{in}
	}
	return found
}

// short tells whether a span need not be halved any more, if a root is alone there.
func (s search) short(in Span) bool { return in.High.Sub(in.Low).Cmp(s.length) <= 0 }

// middle parts a span into halves.
func middle(in Span) frac.Frac {
	return divided(in.Low.Add(in.High), frac.Whole(2))
}

// narrowed is what is left of a span with just one root, if it is halved until it is short.
func (s search) narrowed(in Span) Span {
	high := s.of.at(in.High).Sign()
	for !s.short(in) {
		mid := middle(in)
		sign := s.of.at(mid).Sign()
		if high == 0 || sign == -high { // the root is High itself, or where the sign changes
			in.Low = mid
		} else {
			in.High, high = mid, sign
		}
	}
	return in
}

// within tells whether no root is above 1, as far as it is seen at once: beyond, the highest power is more than all those together that are taken away.
func (p polynomial) within() bool {
	rest := p.last() // above 0
	for _, c := range p[:len(p)-1] {
		if c.Sign() < 0 {
			rest = rest.Add(c)
		}
	}
	return rest.Sign() >= 0
}

// most is how many roots are above 0 and up to 1, or by a multiple of 2 more; 0 and 1 are told for certain. Those below 1 are no more than the signs change, where 1 / (1 + x) stands in the place of x (Descartes).
func (p polynomial) most() int {
	p = slices.Clone(p)
	slices.Reverse(p)
	n, ahead := 0, 0
	for i, c := range p.moved() {
		sign := c.Sign()
		if sign*ahead < 0 || i == 0 && sign == 0 { // a root at 1 itself is none of the changes
			n++
		}
		if sign != 0 {
			ahead = sign
		}
	}
	return n
}
