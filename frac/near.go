package frac

import "tontine/api"

// nearMost is the greatest lower number that Near is asked for.
const nearMost = 1_000_000

// mark is a fraction whose lower number is not great, of whole numbers that have no divisor in common.
type mark struct {
	over  Frac
	under int
}

// value is a mark's fraction.
func (m mark) value() Frac {
	lower := Whole(m.under)
	return m.over.Mul(lower.turned())
}

// plus is a mark with upper and lower number of another one, n times, added to its own.
func (m mark) plus(n int, other mark) mark {
	return mark{m.over.Add(other.over.Mul(Whole(n))), m.under + n*other.under}
}

// Near is the fraction nearest to one, of those whose lower number is at most so great; of two that are as near the one whose lower number is less, of two of these the lesser one.
func Near(f Frac, most int) (Frac, error) {
	if most < 1 || most > nearMost {
		return Frac{}, api.ErrRange
	}
	nearer := func(a, b mark) bool {
		x, y := a.value(), b.value()
		order := x.Sub(f).abs().Cmp(y.Sub(f).abs())
		if order == 0 {
			order = a.under - b.under
		}
		if order == 0 {
			order = x.Cmp(y)
		}
		return order < 0
	}
	a, b := neighbours(f, most)
	if nearer(a, b) {
		return a.value(), nil
	}
	return b.value(), nil
}

// neighbours are those of f on both sides among the fractions whose lower numbers are at most so great (or f twice, if it is one of them), by f's continued fraction: the last two of its convergents with such numbers, the earlier one brought on towards f as far as they go.
func neighbours(f Frac, most int) (mark, mark) {
	low := f.Floor()
	last, now := mark{Whole(1), 0}, mark{low, 1}
	rest := f.Sub(low)
	for rest.Sign() != 0 {
		next := rest.turned()
		low = next.Floor()
		room := (most - last.under) / now.under
		n, ok := low.Int()
		if !ok || n > room {
			return now, last.plus(room, now)
		}
		last, now = now, last.plus(n, now)
		rest = next.Sub(low)
	}
	return now, now
}
