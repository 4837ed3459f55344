package desk

import (
	"slices"
	"strings"

	"tontine/api"
	"tontine/cover"
	"tontine/frac"
	"tontine/joint"
	"tontine/table"
)

// table: .., as a table's text has it.
func (h *house) table(words []string) string {
	t := sure(table.Read("table " + strings.Join(words, " ")))
	h.tables[t.Name()] = t
	return fine
}

// left: NAME AGE.
func (h *house) left(words []string) string {
	count(words, 2, 2)
	t, age := h.named(words[0]), number(words[1])
	return fractionText(sure(t.Left(age)))
}

// term: NAME AGE YEARS RATE AMOUNT.
func (h *house) term(words []string) string {
	count(words, 5, 5)
	_, premium := h.insured(words)
	return fractionText(premium)
}

// saved: NAME AGE YEARS RATE AMOUNT YEAR. What is wrong with the premium is told ahead of the year.
func (h *house) saved(words []string) string {
	count(words, 6, 6)
	life, premium := h.insured(words)
	year := number(words[5])
	return fractionText(sure(life.Reserve(premium, year, living)))
}

// insured is the cover that the words of term tell, and its premium.
func (h *house) insured(words []string) (*cover.Cover, frac.Frac) {
	t, age, years := h.named(words[0]), number(words[1]), number(words[2])
	rate, dead := fraction(words[3]), fraction(words[4])
	life := sure(Life(t, age, years, rate, dead, frac.Frac{}))
	return life, sure(life.Premium())
}

// joint: LEAST YEARS RATE NAME AGE .. The lives are read ahead of the rest.
func (h *house) joint(words []string) string {
	const ahead = 3
	count(words, ahead+1, ahead+2*api.MaxLives)
	lives := h.lives(words[ahead:])
	least, years, rate := number(words[0]), number(words[1]), fraction(words[2])
	return fractionText(sure(joint.Income(lives, least, years, rate)))
}

// lives reads pairs, pair by pair: NAME AGE ..
func (h *house) lives(words []string) []joint.Life {
	var l []joint.Life
	for pair := range slices.Chunk(words, 2) {
		count(pair, 2, 2)
		l = append(l, joint.Life{Table: h.named(pair[0]), Age: number(pair[1])})
	}
	return l
}
