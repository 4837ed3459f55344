package wave_test

import (
	"math"
	"math/big"
	"math/rand"
	"testing"
)

// exact is a float as the library has it, with room for any sum and product of two.
func exact(x float64) *big.Float { return new(big.Float).SetPrec(2200).SetFloat64(x) }

// rounded is the float that is nearest (to even).
func rounded(x *big.Float) float64 {
	f, _ := x.Float64()
	return f
}

// plus, minus, times, by and root are exact first, and then rounded, once: nothing is fused.
func plus(x, y float64) float64  { return rounded(exact(0).Add(exact(x), exact(y))) }
func minus(x, y float64) float64 { return rounded(exact(0).Sub(exact(x), exact(y))) }
func times(x, y float64) float64 { return rounded(exact(0).Mul(exact(x), exact(y))) }
func by(x, y float64) float64    { return rounded(exact(0).Quo(exact(x), exact(y))) }
func root(x float64) float64     { return rounded(exact(0).Sqrt(exact(x))) }

// pair is a complex number.
type pair struct{ x, y float64 }

// product is that of 8.1.
func (p pair) product(q pair) pair {
	return pair{minus(times(p.x, q.x), times(p.y, q.y)), plus(times(p.x, q.y), times(p.y, q.x))}
}

// first is the first n-th root of 8.2.
func first(n int) pair {
	switch n {
	case 2:
		return pair{-1, 0}
	case 4:
		return pair{0, 1}
	}
	z := first(n / 2)
	u := root(by(plus(1, z.x), 2))
	return pair{u, by(z.y, times(2, u))}
}

// turned are numbers turned by 8.3, but for the division.
func turned(l []pair, back bool) []pair {
	n := len(l)
	if n == 1 {
		return []pair{l[0]}
	}
	var even, odd []pair
	for i, p := range l {
		if i%2 == 0 {
			even = append(even, p)
		} else {
			odd = append(odd, p)
		}
	}
	a, b := turned(even, back), turned(odd, back)
	out := make([]pair, n)
	w := pair{1, 0}
	for k := range n / 2 {
		r := w
		if !back {
			r.y = math.Copysign(r.y, -math.Copysign(1, r.y))
		}
		t := r.product(b[k])
		out[k] = pair{plus(a[k].x, t.x), plus(a[k].y, t.y)}
		out[k+n/2] = pair{minus(a[k].x, t.x), minus(a[k].y, t.y)}
		w = w.product(first(n))
	}
	return out
}

// whole is what Turn asks.
func whole(l []pair, back bool) []pair {
	out := turned(l, back)
	if back {
		for i, p := range out {
			out[i] = pair{by(p.x, float64(len(l))), by(p.y, float64(len(l)))}
		}
	}
	return out
}

// many is what Many asks.
func many(l []float64, n int) []float64 {
	var waves []pair
	for _, x := range l {
		waves = append(waves, pair{x, 0})
	}
	waves = whole(waves, false)
	for i, x := range waves {
		p := pair{1, 0}
		for left := n; left > 0; left /= 2 {
			if left%2 == 1 {
				p = p.product(x)
			}
			if left > 1 { // what comes behind the last bit does not count, and may be too great to be said
				x = x.product(x)
			}
		}
		waves[i] = p
	}
	var out []float64
	for _, p := range whole(waves, true) {
		out = append(out, p.x)
	}
	return out
}

// pairs are complex numbers in pairs.
func pairs(l []complex128) []pair {
	var out []pair
	for _, c := range l {
		out = append(out, pair{real(c), imag(c)})
	}
	return out
}

// like tells whether two floats are the same, bit by bit, or both no numbers.
func like(x, y float64) bool {
	return math.Float64bits(x) == math.Float64bits(y) || math.IsNaN(x) && math.IsNaN(y)
}

// wantPairs fails unless complex numbers are these, bit by bit, without an error.
func wantPairs(t *testing.T, what string, l []complex128, err error, w []pair) {
	t.Helper()
	if err != nil || len(l) != len(w) {
		t.Errorf("%s: %d numbers, not %d, %v", what, len(l), len(w), err)
		return
	}
	for i, c := range l {
		if !like(real(c), w[i].x) || !like(imag(c), w[i].y) {
			t.Errorf("%s: the number at %d is %v, not %v (bits %x %x, not %x %x)", what, i, c, w[i], math.Float64bits(real(c)), math.Float64bits(imag(c)), math.Float64bits(w[i].x), math.Float64bits(w[i].y))
		}
	}
}

// wantFloats fails unless floats are these, bit by bit, without an error.
func wantFloats(t *testing.T, what string, l []float64, err error, w []float64) {
	t.Helper()
	if err != nil || len(l) != len(w) {
		t.Errorf("%s: %d numbers, not %d, %v", what, len(l), len(w), err)
		return
	}
	for i, x := range l {
		if !like(x, w[i]) {
			t.Errorf("%s: the number at %d is %v, not %v (bits %x, not %x)", what, i, x, w[i], math.Float64bits(x), math.Float64bits(w[i]))
		}
	}
}

// drawn is a float of any sign and of some size, at times a nought of either sign.
func drawn(r *rand.Rand) float64 {
	sign := float64(1 - 2*r.Intn(2))
	if r.Intn(5) == 0 {
		return math.Copysign(0, sign)
	}
	return sign * math.Ldexp(1+r.Float64(), r.Intn(40)-20)
}

// drawnWaves are so many complex numbers.
func drawnWaves(r *rand.Rand, n int) []complex128 {
	var l []complex128
	for range n {
		l = append(l, complex(drawn(r), drawn(r)))
	}
	return l
}

// drawnLaw are so many floats, 1 together but for rounding.
func drawnLaw(r *rand.Rand, n int) []float64 {
	l := make([]float64, n)
	sum := 0.0
	for i := range l {
		l[i] = r.Float64()
		sum += l[i]
	}
	for i := range l {
		l[i] /= sum
	}
	return l
}
