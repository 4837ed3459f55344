package fund

import (
	"slices"

	"tontine/api"
	"tontine/frac"
)

// begin is the start: each has their stake.
func begin(f Fund) State {
	s := State{Have: slices.Clone(f.Stakes), Paid: make([]int, len(f.Stakes))}
	for _, stake := range f.Stakes {
		s.Come += stake
	}
	return s
}

// behind is the state behind one more year; s stays as it is. (What came is looked at as soon as all of it is there, so that no more is shared than Split parts.)
func (s State) behind(f Fund, y Year) (State, error) {
	s.Have, s.Paid = slices.Clone(s.Have), slices.Clone(s.Paid)
	s.grow(y.Rate)
	if s.Come > api.MaxUnits {
		return State{}, api.ErrLimit
	}
	s.share(f, s.bury(y.Dead))
	s.pay(y.Pay)
	return s, nil
}

// grow gives each a part of what they have more.
func (s *State) grow(rate frac.Frac) {
	for i, have := range s.Have {
		more := cut(have, rate)
		s.Have[i] += more
		s.Come += more
	}
}

// bury lets members die, and is what they leave together.
func (s *State) bury(members []int) int {
	left := 0
	for _, i := range members {
		left += s.Have[i]
		s.Have[i] = 0
	}
	return left
}

// share gives what was left to the living, if there is one.
func (s *State) share(f Fund, left int) {
	if left == 0 {
		return
	}
	shares, err := frac.Split(left, s.weights(f))
	if err != nil {
		s.Left += left
		return
	}
	for i, share := range shares {
		s.Have[i] += share
	}
}

// weights are those by which a fund shares what was left, of each member. Who has nothing is dead then: of one unit nothing is paid unless all is, so the living have something or nobody does, and nothing is left in that case.
func (s *State) weights(f Fund) []frac.Frac {
	weights := make([]frac.Frac, len(s.Have))
	for i, have := range s.Have {
		switch {
		case have == 0:
		case f.By == byHave:
			weights[i] = frac.Whole(have)
		case f.By == alike:
			weights[i] = frac.Whole(1)
		case f.By == byRisk:
			weights[i] = frac.Whole(have).Mul(f.Risks[i])
		}
	}
	return weights
}

// pay pays each a part of what they have.
func (s *State) pay(rate frac.Frac) {
	for i, have := range s.Have {
		out := cut(have, rate)
		s.Have[i] -= out
		s.Paid[i] += out
	}
}

// cut is a part of units, rounded down.
func cut(units int, rate frac.Frac) int {
	n, _ := frac.Whole(units).Mul(rate).Floor().Int()
	return n
}
