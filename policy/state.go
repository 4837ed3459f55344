package policy

import (
	"slices"
	"strings"

	"tontine/frac"
)

const daysOfYear = 365

// history is a state while events are done one by one.
type history struct {
	state  State
	opened bool // whether it was ever on
	day    int  // the first one that is not reckoned in earned
	earned int  // in 365ths
}

// stateOf is what holds at the end of a day, if these events came about, each at its day.
func stateOf(events []Event, day int) State {
	var h history
	for _, e := range events {
		h.earnUntil(e.Day)
		if h.fits(e) {
			h.do(e)
		} else {
			h.state.Passed++
		}
	}
	h.earnUntil(day + 1)
	h.state.Earned, _ = frac.Of(h.earned, daysOfYear)
	return h.state
}

// earnUntil reckons the days ahead of one: no event changes the premium at their ends any more. (Ahead of Open and behind Close it is 0.)
func (h *history) earnUntil(day int) {
	h.earned += h.state.Premium * (day - h.day)
	h.day = day
}

// fits tells whether an event may come about now.
func (h *history) fits(e Event) bool {
	switch e.Kind {
	case Open:
		return !h.opened
	case Change, Close:
		return h.state.On
	case Pay:
		return true
	}
	place, there := h.find(e.Ref)
	if e.Kind == Claim {
		return h.state.On && !there
	}
	return there && h.state.Cases[place].fits(e)
}

// fits tells whether an event of a case that is there may come about now.
func (c Case) fits(e Event) bool {
	switch e.Kind {
	case Out:
		return c.Open && e.Amount <= c.By
	case Back:
		return e.Amount <= c.Paid-c.Back
	}
	return c.Open
}

// find is where the case of a name stands, or would stand.
func (h *history) find(name string) (place int, there bool) {
	return slices.BinarySearchFunc(h.state.Cases, name, func(c Case, name string) int { return strings.Compare(c.Name, name) })
}

// do lets an event that fits come about.
func (h *history) do(e Event) {
	switch e.Kind {
	case Open:
		h.opened, h.state.On, h.state.Premium = true, true, e.Amount
	case Change:
		h.state.Premium = e.Amount
	case Close:
		h.state.On, h.state.Premium = false, 0
	case Pay:
		h.state.Paid += e.Amount
	case Claim:
		place, _ := h.find(e.Ref)
		h.state.Cases = slices.Insert(h.state.Cases, place, Case{Name: e.Ref, By: e.Amount, Open: true})
	default:
		place, _ := h.find(e.Ref)
		h.state.Cases[place].do(e)
	}
}

// do lets an event of a case that fits come about.
func (c *Case) do(e Event) {
	switch e.Kind {
	case Put:
		c.By = e.Amount
	case Out:
		c.By -= e.Amount
		c.Paid += e.Amount
	case Back:
		c.Back += e.Amount
	case Settle:
		c.By, c.Open = 0, false
	}
}
