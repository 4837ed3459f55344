package claims

import (
	"tontine/api"
	"tontine/frac"
	"tontine/whole"
)

// Kinds of numbers of claims.
const (
	Tries    = iota + 1 // of N tries each is one with the chance P
	Failures            // as many fail, each with the chance P, ahead of the N-th that does not
)

// Number is a kind of number of claims.
type Number struct {
	Kind, N int
	P       frac.Frac
}

// Chances are how likely each number is, from 0 up to one.
func Chances(c Number, upTo int) ([]frac.Frac, error) {
	if err := c.check(); err != nil {
		return nil, err
	}
	if err := checkSize(upTo); err != nil {
		return nil, err
	}
	f := formOf(c)
	out := []frac.Frac{f.none}
	for n := range upTo {
		step, _ := frac.Of(f.power-n, n+1)
		out = append(out, out[n].Mul(f.ratio.Mul(step)))
	}
	return out, nil
}

// Panjer is how likely each amount of all claims together is, from 0 up to one, each from those below it.
func Panjer(c Number, size Law, upTo int) ([]frac.Frac, error) {
	if err := c.check(); err != nil {
		return nil, err
	}
	if err := Check(size); err != nil {
		return nil, err
	}
	if err := checkSize(upTo); err != nil {
		return nil, err
	}
	return formOf(c).together(size, upTo), nil
}

// check says whether a number of claims may be.
func (c Number) check() error {
	least := 0
	switch c.Kind {
	case Tries:
	case Failures:
		least = 1
	default:
		return api.ErrArg
	}
	if c.N < least || c.N > api.MaxSize {
		return api.ErrRange
	}
	if !chanceBelowOne(c.P) {
		return api.ErrArg
	}
	return nil
}

// form is what both kinds have in common: the chance of n claims is none times the factor of x^n in (1 + ratio x)^power.
type form struct {
	none  frac.Frac
	ratio frac.Frac
	power int
}

// formOf is a number's form.
func formOf(c Number) form {
	stays := frac.Whole(1).Sub(c.P)
	none, _ := stays.Pow(c.N)
	if c.Kind == Tries {
		return form{none, quotient(c.P, stays), c.N}
	}
	return form{none, c.P.Neg(), -c.N}
}

// together is how likely each amount is: none times the power of 1 + ratio times the size's law.
func (f form) together(size Law, upTo int) []frac.Frac {
	base := whole.Times(size[:min(len(size), upTo+1)], f.ratio) // greater sizes tell on no amount up to that
	base[0] = base[0].Add(frac.Whole(1))
	w := waysOf(base)
	s := f.seriesOf(w)
	for range upTo {
		s.next(w.over, f.power+1)
	}
	out := make([]frac.Frac, upTo+1)
	scale := s.scale.Mul(f.none)
	for amount, over := range s.over {
		out[amount] = over.Mul(scale)
		scale = quotient(scale, s.grows)
	}
	return out
}

// series has the factors of a power of whole numbers, as far as they are known: whole numbers, too. The factor of x^n is over[n] times scale, n times divided by grows.
type series struct {
	over         []frac.Frac
	scale, grows frac.Frac
	by           frac.Frac // each is divided by it without a rest
}

// seriesOf is the power of a base, with its first factor. (Of a power from 0 on, all factors are whole as they are; of one below 0, what each is divided by is kept aside.)
func (f form) seriesOf(base ways) series {
	one := frac.Whole(1)
	if f.power >= 0 {
		first, _ := base.over[0].Pow(f.power)
		scale, _ := base.under.Pow(-f.power)
		return series{over: []frac.Frac{first}, scale: scale, grows: one, by: base.over[0]}
	}
	scale, _ := quotient(base.over[0], base.under).Pow(f.power)
	return series{over: []frac.Frac{one}, scale: scale, grows: base.over[0], by: one}
}

// next finds the next factor from those below it (Panjer): n times it, times the base's first number, is the sum of (k above - n) times the base's k-th number times the factor k places below, where above is the power and 1 more.
func (s *series) next(base []frac.Frac, above int) {
	n := len(s.over)
	var sum frac.Frac
	for k := min(n, len(base)-1); k > 0; k-- {
		weight := base[k].Mul(frac.Whole(k*above - n))
		sum = sum.Mul(s.grows).Add(weight.Mul(s.over[n-k]))
	}
	s.over = append(s.over, quotient(sum, s.by.Mul(frac.Whole(n))))
}
