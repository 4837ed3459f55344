package desk

import (
	"tontine/api"
	"tontine/lines"
	"tontine/policy"
	"tontine/table"
	"tontine/treaty"
)

// house is what was told in a session.
type house struct {
	tables map[string]*table.Table // by their names
	bears  []treaty.Line
	book   *policy.Book
	does   map[string]func(words []string) string // by a line's first word: what it does with those behind, and tells
}

// newHouse was told nothing.
func newHouse() *house {
	h := &house{tables: map[string]*table.Table{}, book: policy.New()}
	h.does = map[string]func([]string) string{
		"table":  h.table,
		"left":   h.left,
		"term":   h.term,
		"saved":  h.saved,
		"joint":  h.joint,
		"many":   h.many,
		"ruin":   h.ruin,
		"bear":   h.bear,
		"claims": h.claims,
		"grow":   h.grow,
		"policy": h.policy,
		"state":  h.state,
		"split":  h.split,
	}
	return h
}

// answer does what a line says. What is wrong with it is thrown, however deep that is found, and told here.
func (h *house) answer(line string) (told string) {
	defer func() {
		if thrown := recover(); thrown != nil {
			told = thrownText(thrown)
		}
	}()
	var words []string
	for _, word := range lines.Words(line) {
		words = append(words, word)
	}
	if len(words) == 0 {
		return fine
	}
	do, there := h.does[words[0]]
	if !there {
		throw(api.ErrForm)
	}
	return do(words[1:])
}
