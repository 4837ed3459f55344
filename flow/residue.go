package flow

import (
	"slices"

	"tontine/frac"
)

// prime is one whose products fit into a word.
const prime = 1<<31 - 1

// distinct tells whether a polynomial of whole coefficients is seen to have no multiple roots. It is asked by what the coefficients leave, divided by a prime: as long as the last one leaves something, a divisor in common with the slope would be seen there, too. (That spares nearly always the search for one, in which numbers grow long.)
func (p polynomial) distinct() bool {
	f := p.residues()
	if f[len(f)-1] == 0 {
		return false
	}
	var g []uint64
	for i := 1; i < len(f); i++ {
		g = append(g, f[i]*uint64(i)%prime)
	}
	for len(g) > 0 {
		f, g = g, leftByPrime(f, g)
	}
	return len(f) == 1
}

// residues are what whole coefficients leave, divided by the prime.
func (p polynomial) residues() []uint64 {
	out := make([]uint64, len(p))
	for i, c := range p {
		times := divided(c, frac.Whole(prime)).Floor()
		n, _ := c.Sub(times.Mul(frac.Whole(prime))).Int()
		out[i] = uint64(n)
	}
	return out
}

// leftByPrime is what a division of f by g leaves, where multiples of the prime count as 0; the last of g is not 0, nor is that of what is left.
func leftByPrime(f, g []uint64) []uint64 {
	lead := inverse(g[len(g)-1])
	rest := slices.Clone(f)
	for n := len(rest); n >= len(g); n = len(rest) {
		times := rest[n-1] * lead % prime
		for i, c := range g {
			k := n - len(g) + i
			rest[k] = (rest[k] + times*(prime-c)) % prime
		}
		rest = rest[:n-1]
	}
	for n := len(rest); n > 0 && rest[n-1] == 0; n-- {
		rest = rest[:n-1]
	}
	return rest
}

// inverse is the number times which n, which is not 0, leaves 1, divided by the prime: n to the power of 2 less than that (Fermat).
func inverse(n uint64) uint64 {
	out := uint64(1)
	for power := prime - 2; power > 0; power /= 2 {
		if power%2 == 1 {
			out = out * n % prime
		}
		n = n * n % prime
	}
	return out
}
