package claims

import (
	"slices"

	"tontine/api"
	"tontine/frac"
	"tontine/whole"
)

// Policy is one that has a claim of an amount with a chance, or none.
type Policy struct {
	Chance frac.Frac
	Amount int
}

// Single is how likely each amount of all policies' claims together is, from 0 up to one.
func Single(l []Policy, upTo int) ([]frac.Frac, error) {
	if err := checkPolicies(l, upTo); err != nil {
		return nil, err
	}
	stakes := stakesOf(l)
	over := make([]frac.Frac, upTo+1)
	over[0] = frac.Whole(1)
	for _, s := range stakes {
		s.join(over)
	}
	return ways{over, under(stakes)}.chances(), nil
}

// Pril tells the same, each amount from those below it (De Pril): s times its chance is the sum, over all policies and how often their amount is taken, of (-1)^(k+1) b (q/(1-q))^k times the chance of s - k b.
func Pril(l []Policy, upTo int) ([]frac.Frac, error) {
	if err := checkPolicies(l, upTo); err != nil {
		return nil, err
	}
	stakes := stakesOf(l)
	over := []frac.Frac{noClaims(stakes)}
	rows := rowsOf(stakes)
	for amount := 1; amount <= upTo; amount++ {
		var sum frac.Frac
		for _, r := range rows {
			sum = sum.Add(r.part(over))
		}
		over = append(over, quotient(sum, frac.Whole(amount)))
	}
	return ways{over, under(stakes)}.chances(), nil
}

// checkPolicies says whether policies may be, one by one, and an amount.
func checkPolicies(l []Policy, upTo int) error {
	if len(l) > api.MaxSize {
		return api.ErrLimit
	}
	for _, p := range l {
		if !chanceBelowOne(p.Chance) {
			return api.ErrArg
		}
		if err := checkSize(p.Amount); err != nil {
			return err
		}
	}
	return checkSize(upTo)
}

// stake is a policy whose claim is above 0: in how many ways it has one, and in how many none.
type stake struct {
	claim, none frac.Frac
	amount      int
}

// stakesOf are those of policies. A claim of 0 tells on no amount.
func stakesOf(l []Policy) []stake {
	var out []stake
	for _, p := range l {
		if p.Amount == 0 {
			continue
		}
		all := whole.Common([]frac.Frac{p.Chance})
		claim := p.Chance.Mul(all)
		out = append(out, stake{claim, all.Sub(claim), p.Amount})
	}
	return out
}

// under is in how many ways all may fare.
func under(l []stake) frac.Frac {
	all := frac.Whole(1)
	for _, s := range l {
		all = all.Mul(s.claim.Add(s.none))
	}
	return all
}

// noClaims is in how many of them none has a claim.
func noClaims(l []stake) frac.Frac {
	all := frac.Whole(1)
	for _, s := range l {
		all = all.Mul(s.none)
	}
	return all
}

// join puts one more into the ways of each amount, which are written over, from the greatest amount down: those below are still without it then.
func (s stake) join(over []frac.Frac) {
	for amount, n := range slices.Backward(over) {
		over[amount] = n.Mul(s.none)
		if amount >= s.amount {
			over[amount] = over[amount].Add(over[amount-s.amount].Mul(s.claim))
		}
	}
}

// row is what one stake adds, amount by amount. What it added stays for as many amounts as its own is, since only then it is asked for again.
type row struct {
	stake
	added []frac.Frac
}

// rowsOf are those of stakes, which have added nothing yet.
func rowsOf(l []stake) []row {
	var out []row
	for _, s := range l {
		out = append(out, row{s, make([]frac.Frac, s.amount)})
	}
	return out
}

// part is what a stake adds to the amount behind those that are known: its own amount times the ways in which all together have that one, and it has a claim. (It is divided without a rest.)
func (r row) part(over []frac.Frac) frac.Frac {
	if len(over) < r.amount {
		return frac.Frac{}
	}
	last := &r.added[len(over)%r.amount]
	claims := frac.Whole(r.amount).Mul(over[len(over)-r.amount]).Sub(*last)
	*last = quotient(claims.Mul(r.claim), r.none)
	return *last
}
