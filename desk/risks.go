package desk

import (
	"slices"
	"strings"

	"tontine/api"
	"tontine/claims"
	"tontine/frac"
	"tontine/ruin"
	"tontine/treaty"
	"tontine/triangle"
)

const (
	mostBearWords = 20
	mostGrowWords = 500
)

// many: N Q .. The law is read ahead of N.
func (h *house) many(words []string) string {
	count(words, 2, api.MaxSize)
	law := claims.Law(fractions(words[1:]))
	n := number(words[0])
	return frac.Words(sure(claims.Times(law, n)))
}

// ruin: START INCOME YEARS Q .. The law is read ahead of YEARS.
func (h *house) ruin(words []string) string {
	count(words, 4, api.MaxSize)
	start, income := number(words[0]), number(words[1])
	law := claims.Law(fractions(words[3:]))
	years := number(words[2])
	return fractionText(sure(ruin.Within(start, income, law, years)))
}

// bear: .., as a treaty's text has a line.
func (h *house) bear(words []string) string {
	count(words, 1, mostBearWords)
	line := sure(treaty.Parse(strings.Join(words, " ")))
	all := slices.Concat(h.bears, line)
	throw(treaty.Check(all))
	h.bears = all
	return fine
}

// claims: SUM AMOUNT ..
func (h *house) claims(words []string) string {
	count(words, 2, api.MaxSize)
	var l []treaty.Claim
	for pair := range slices.Chunk(words, 2) {
		count(pair, 2, 2)
		l = append(l, treaty.Claim{Sum: number(pair[0]), Amount: number(pair[1])})
	}
	return h.borneText(sure(treaty.Apply(h.bears, l)))
}

// borneText tells what is left of claims, and what each line bears.
func (h *house) borneText(r treaty.Result) string {
	told := []string{"net " + numbersText(r.Net)}
	for i, x := range h.bears {
		told = append(told, x.To+" "+numbersText(bears(r, i)))
	}
	return strings.Join(told, " ")
}

// bears is what a line bears of each claim and, if it is a stop, of all.
func bears(r treaty.Result, line int) int {
	all := r.Stops[line]
	for _, c := range r.Claims {
		all += c.Shares[line]
	}
	return all
}

// grow: N .., with / in the place of line feeds (also within a word).
func (h *house) grow(words []string) string {
	count(words, 1, mostGrowWords)
	text := strings.ReplaceAll(strings.Join(words, " "), "/", "\n")
	t := sure(triangle.Parse(text))
	return frac.Words(sure(triangle.Reserves(t)))
}

// split: UNITS Q ..
func (h *house) split(words []string) string {
	count(words, 2, api.MaxSize)
	units := number(words[0])
	weights := fractions(words[1:])
	return numbersText(sure(frac.Split(units, weights))...)
}
