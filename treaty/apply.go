package treaty

import (
	"tontine/api"
	"tontine/frac"
)

// Claim is one of an amount, of a risk of a sum.
type Claim struct{ Sum, Amount int }

// Paid is who bears what of a claim: each line, and what is left.
type Paid struct {
	Shares []int
	Net    int
}

// Result is who bears what of all: of each claim; of each line what a stop bears; of each line what it costs to have its limit anew; and what is left in the end.
type Result struct {
	Claims   []Paid
	Stops    []int
	Premiums []int
	Net      int
}

// Apply tells who bears what.
func Apply(l []Line, claims []Claim) (Result, error) {
	if err := Check(l); err != nil {
		return Result{}, err
	}
	if err := checkClaims(claims); err != nil {
		return Result{}, err
	}
	out := Result{
		Claims:   make([]Paid, len(claims)),
		Stops:    make([]int, len(l)),
		Premiums: make([]int, len(l)),
	}
	borne := make([]int, len(l))
	for i, c := range claims {
		out.Claims[i] = parted(l, c, borne)
		out.Net += out.Claims[i].Net
	}
	for i, x := range l {
		switch x.Kind {
		case Excess:
			out.Premiums[i] = x.premium(borne[i])
		case Stop:
			out.Stops[i] = x.above(out.Net)
			out.Net -= out.Stops[i]
		}
	}
	return out, nil
}

// checkClaims says whether claims may be.
func checkClaims(claims []Claim) error {
	if len(claims) > api.MaxText {
		return api.ErrLimit
	}
	for _, c := range claims {
		if c.Sum < 1 || c.Sum > mostMoney || !within(c.Amount, c.Sum) {
			return api.ErrRange
		}
	}
	return nil
}

// parted is who bears what of a claim, behind claims of which each line has borne so much; that becomes more by this one.
func parted(l []Line, c Claim, borne []int) Paid {
	out := Paid{Shares: make([]int, len(l)), Net: c.Amount}
	for i, x := range l {
		out.Shares[i] = x.bears(c.Sum, out.Net, borne[i])
		out.Net -= out.Shares[i]
		borne[i] += out.Shares[i]
	}
	return out
}

// bears is what a line bears of what is left of a claim of a risk, behind what it has borne of those ahead.
func (x Line) bears(sum, left, borne int) int {
	switch x.Kind {
	case Cede:
		return part(x.Share, left)
	case Surplus:
		return part(x.taken(sum), left)
	case Excess:
		return min(x.above(left), x.Limit*(x.Times+1)-borne)
	}
	return 0
}

// taken is which part of a risk a surplus takes.
func (x Line) taken(sum int) frac.Frac {
	if sum <= x.Limit {
		return frac.Frac{}
	}
	return divided(min(sum-x.Limit, x.Limit*x.Times), sum)
}

// above is what is above From, but Limit at most.
func (x Line) above(n int) int { return min(max(n-x.From, 0), x.Limit) }

// premium is what it costs to have had the limit of an excess anew, if so much was borne.
func (x Line) premium(borne int) int {
	anew := divided(min(borne, x.Limit*x.Times), x.Limit)
	price, _ := anew.Mul(frac.Whole(x.Price)).Round(frac.Whole(1))
	n, _ := price.Int()
	return n
}

// part is a part of a number, rounded down.
func part(share frac.Frac, of int) int {
	n, _ := share.Mul(frac.Whole(of)).Floor().Int()
	return n
}

// divided is one number divided by another one, which is not 0.
func divided(over, under int) frac.Frac {
	f, _ := frac.Of(over, under)
	return f
}
