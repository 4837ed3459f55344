package desk

import (
	"strings"

	"tontine/policy"
)

// kindOf is the kind of events that a word tells; 0, if it tells none.
func kindOf(word string) int {
	kinds := map[string]int{
		"open":   policy.Open,
		"change": policy.Change,
		"close":  policy.Close,
		"pay":    policy.Pay,
		"claim":  policy.Claim,
		"put":    policy.Put,
		"out":    policy.Out,
		"back":   policy.Back,
		"settle": policy.Settle,
		"annul":  policy.Annul,
	}
	return kinds[word]
}

// policy: ID POLICY KIND DAY AMOUNT, perhaps REF.
func (h *house) policy(words []string) string {
	count(words, 5, 6)
	e := policy.Event{Id: words[0], Policy: words[1], Kind: kindOf(words[2]), Day: number(words[3]), Amount: number(words[4])}
	if len(words) == 6 {
		e.Ref = words[5]
	}
	throw(h.book.Add(e))
	return fine
}

// state: POLICY DAY, perhaps KNOWN.
func (h *house) state(words []string) string {
	count(words, 2, 3)
	day, known := number(words[1]), h.book.Known()
	if len(words) == 3 {
		known = number(words[2])
	}
	return stateText(sure(h.book.At(words[0], day, known)))
}

// stateText tells what holds of a policy.
func stateText(s policy.State) string {
	told := []string{
		onText(s.On),
		"premium " + numbersText(s.Premium),
		"earned " + s.Earned.Text(),
		"paid " + numbersText(s.Paid),
		"passed " + numbersText(s.Passed),
	}
	for _, c := range s.Cases {
		told = append(told, c.Name+" "+numbersText(c.By, c.Paid, c.Back))
	}
	return strings.Join(told, " ")
}

// onText tells whether something is on.
func onText(on bool) string {
	if on {
		return "on"
	}
	return "off"
}
