package flow

import (
	"slices"

	"tontine/frac"
	"tontine/whole"
)

// polynomial is its coefficients, from the lowest power on. Without any it is 0.
type polynomial []frac.Frac

// trimmed is a polynomial without noughts at its end.
func (p polynomial) trimmed() polynomial {
	n := len(p)
	for n > 0 && p[n-1].Sign() == 0 {
		n--
	}
	return p[:n]
}

// last is the coefficient of the highest power.
func (p polynomial) last() frac.Frac { return p[len(p)-1] }

// fromEnd goes through the coefficients from the highest power down.
func (p polynomial) fromEnd(yield func(frac.Frac) bool) {
	for i := len(p) - 1; i >= 0; i-- {
		if !yield(p[i]) {
			return
		}
	}
}

// at is what the polynomial is at x, worked out from its end (Horner).
func (p polynomial) at(x frac.Frac) frac.Frac {
	var value frac.Frac
	for c := range p.fromEnd {
		value = value.Mul(x).Add(c)
	}
	return value
}

// moved is the polynomial at x + 1 in the place of x, worked out likewise.
func (p polynomial) moved() polynomial {
	out := make(polynomial, 0, len(p))
	for c := range p.fromEnd {
		out = append(out, frac.Frac{})
		for i := len(out) - 1; i > 0; i-- {
			out[i] = out[i].Add(out[i-1])
		}
		out[0] = out[0].Add(c)
	}
	return out
}

// doubled is the polynomial at twice x in the place of x.
func (p polynomial) doubled() polynomial {
	out := make(polynomial, len(p))
	for i, c := range p {
		out[i] = c.Mul(frac.Whole(1 << i))
	}
	return out
}

// halved is the polynomial at half of x in the place of x, taken so often that whole coefficients stay whole.
func (p polynomial) halved() polynomial {
	out := make(polynomial, len(p))
	for i, c := range p {
		out[i] = c.Mul(frac.Whole(1 << (len(p) - 1 - i)))
	}
	return out
}

// slope tells how fast the polynomial rises.
func (p polynomial) slope() polynomial {
	var out polynomial
	for i := 1; i < len(p); i++ {
		out = append(out, p[i].Mul(frac.Whole(i)))
	}
	return out
}

// lowered is the polynomial of the same roots with the least whole coefficients, the last one above 0.
func (p polynomial) lowered() polynomial {
	one := whole.Times(p, divided(frac.Whole(1), p.last()))
	return whole.Times(one, whole.Common(one))
}

// simple is the polynomial of the same roots, each once: without what it has in common with its slope.
func (p polynomial) simple() polynomial {
	p = p.lowered()
	if p.distinct() {
		return p
	}
	return p.over(common(p, p.slope()).lowered())
}

// over is a polynomial divided by one by which it can be divided.
func (p polynomial) over(g polynomial) polynomial {
	rest := slices.Clone(p)
	out := make(polynomial, len(p)-len(g)+1)
	for k := len(out) - 1; k >= 0; k-- {
		out[k] = divided(rest[k+len(g)-1], g.last())
		for i, c := range g {
			rest[k+i] = rest[k+i].Sub(out[k].Mul(c))
		}
	}
	return out
}

// common is a greatest common divisor of a polynomial and one of a lower degree, both of whole coefficients, neither 0. What is left at each step is divided by a number that is known to be in it, so that all stay whole and don't grow beyond need (Collins, Brown).
func common(f, g polynomial) polynomial {
	lead, known := frac.Whole(1), frac.Whole(1)
	for {
		drop := len(f) - len(g)
		rest := left(f, g)
		if len(rest) == 0 {
			return g
		}
		part := divided(frac.Whole(1), lead.Mul(power(known, drop)))
		f, g = g, whole.Times(rest, part)
		lead = f.last()
		known = divided(power(lead, drop), power(known, drop-1))
	}
}

// left is what a division of f by g leaves, where f is taken so often (by powers of g's last coefficient) that all stays whole.
func left(f, g polynomial) polynomial {
	rest, lead := slices.Clone(f), g.last()
	for len(rest) >= len(g) {
		top := rest.last()
		rest = whole.Times(rest[:len(rest)-1], lead)
		low := len(rest) - (len(g) - 1)
		for i := range len(g) - 1 {
			rest[low+i] = rest[low+i].Sub(top.Mul(g[i]))
		}
	}
	return rest.trimmed()
}

// power is a power that is far within what Pow reckons.
func power(f frac.Frac, n int) frac.Frac {
	out, _ := f.Pow(n)
	return out
}
