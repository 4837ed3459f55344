package claims

import (
	"tontine/api"
	"tontine/frac"
	"tontine/whole"
)

// Sum is the law of two amounts together, neither of which hangs on the other.
func Sum(a, b Law) (Law, error) {
	if err := checkBoth(a, b); err != nil {
		return nil, err
	}
	if greatest(a)+greatest(b) > api.MaxSize {
		return nil, api.ErrLimit
	}
	v, w := waysOf(short(a)), waysOf(short(b))
	return ways{product(v.over, w.over), v.under.Mul(w.under)}.chances(), nil
}

// Times is the law of so many amounts together.
func Times(l Law, n int) (Law, error) {
	if err := Check(l); err != nil {
		return nil, err
	}
	if n < 0 || n > api.MaxSize || n*greatest(l) > api.MaxSize {
		return nil, api.ErrLimit
	}
	return compounded(certain(n), waysOf(short(l))).chances(), nil
}

// Compound is the law of as many amounts together as there are claims.
func Compound(number, size Law) (Law, error) {
	if err := checkBoth(number, size); err != nil {
		return nil, err
	}
	if greatest(number)*greatest(size) > api.MaxSize {
		return nil, api.ErrLimit
	}
	return compounded(waysOf(short(number)), waysOf(short(size))).chances(), nil
}

// greatest is the greatest amount that has a chance.
func greatest(l Law) int {
	amount := len(l) - 1
	for l[amount].Sign() == 0 {
		amount--
	}
	return amount
}

// short is a law without the noughts at its end. (What is reckoned of short laws ends with a number that is not 0, too.)
func short(l Law) Law { return l[:greatest(l)+1] }

// ways tell in how many ways of how many each amount comes. (Whole numbers, since fractions would be lowered at each step, which takes far longer once they have grown.)
type ways struct {
	over  []frac.Frac
	under frac.Frac
}

// waysOf are those of chances.
func waysOf(l []frac.Frac) ways {
	under := whole.Common(l)
	return ways{whole.Times(l, under), under}
}

// certain are the ways of one number that is sure to come.
func certain(n int) ways {
	over := make([]frac.Frac, n+1)
	over[n] = frac.Whole(1)
	return ways{over, frac.Whole(1)}
}

// chances are those of ways.
func (w ways) chances() []frac.Frac {
	out := make([]frac.Frac, len(w.over))
	for amount, over := range w.over {
		out[amount] = quotient(over, w.under)
	}
	return out
}

// compounded are the ways of as many amounts together as number tells: from its greatest one down, what was found so far has one amount more.
func compounded(number, size ways) ways {
	last := len(number.over) - 1
	over := number.over[last:]
	under := frac.Whole(1)
	for n := last - 1; n >= 0; n-- {
		over = product(over, size.over)
		under = under.Mul(size.under)
		over[0] = over[0].Add(number.over[n].Mul(under))
	}
	return ways{over, under.Mul(number.under)}
}

// product is in how many ways each amount of two together comes.
func product(a, b []frac.Frac) []frac.Frac {
	out := make([]frac.Frac, len(a)+len(b)-1)
	for i, x := range a {
		if x.Sign() == 0 {
			continue
		}
		for k, y := range b {
			out[i+k] = out[i+k].Add(x.Mul(y))
		}
	}
	return out
}
