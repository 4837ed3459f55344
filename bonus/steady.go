package bonus

import (
	"tontine/chain"
	"tontine/claims"
	"tontine/frac"
)

// Matrix tells how likely each level comes behind each, by how likely each number of claims is.
func Matrix(s Scale, l claims.Law) (chain.Matrix, error) {
	if err := Check(s); err != nil {
		return nil, err
	}
	if err := claims.Check(l); err != nil {
		return nil, err
	}
	m := make(chain.Matrix, s.levels())
	for level := range s.levels() {
		m[level] = s.chances(level, l)
	}
	return m, nil
}

// chances is how likely each level comes behind one.
func (s Scale) chances(level int, l claims.Law) []frac.Frac {
	out := make([]frac.Frac, s.levels())
	last := len(s.After[level]) - 1
	left := frac.Whole(1)
	for n := range min(last, len(l)) {
		to := s.behind(level, n)
		out[to] = out[to].Add(l[n])
		left = left.Sub(l[n])
	}
	to := s.behind(level, last)
	out[to] = out[to].Add(left) // the chances of so many claims or more: a law is 1 together
	return out
}

// Steady is how likely each level is in the end, and what is paid then, in the mean.
func Steady(s Scale, l claims.Law) ([]frac.Frac, frac.Frac, error) {
	m, err := Matrix(s, l)
	if err != nil {
		return nil, frac.Frac{}, err
	}
	chances, err := chain.Steady(m)
	if err != nil {
		return nil, frac.Frac{}, err
	}
	var mean frac.Frac
	for level, chance := range chances {
		mean = mean.Add(chance.Mul(s.Factor[level]))
	}
	return chances, mean, nil
}
