package table

import (
	"strconv"

	"tontine/api"
	"tontine/frac"
	"tontine/lines"
)

// Words of a table's text.
const (
	tableWord = "table"
	fromWord  = "from"
	ratesWord = "rates"
	livesWord = "lives"
)

// The first words, by their number, and how many there are.
const (
	tableAt = iota
	nameAt
	fromAt
	ageAt
	kindAt
	heads
)

// word is a word of a text, and where it begins.
type word struct {
	text  string
	place int
}

// Text writes a table.
func (t *Table) Text() string {
	return tableWord + " " + t.name + " " + fromWord + " " + strconv.Itoa(t.from) + " " + ratesWord + " " + frac.Words(t.rates)
}

// Read reads a table: table NAME from AGE rates Q .. (or lives L ..).
func Read(text string) (*Table, error) {
	if len(text) > api.MaxText {
		return nil, api.ErrLimit
	}
	words := cut(text)
	if place, ok := headed(words, len(text)); !ok {
		return nil, &api.At{Err: api.ErrForm, Place: place}
	}
	from, ok := lines.Number(words[ageAt].text)
	if !ok {
		return nil, &api.At{Err: api.ErrForm, Place: words[ageAt].place}
	}
	rates, err := fractions(words[heads:])
	if err != nil {
		return nil, err
	}
	if words[kindAt].text == livesWord {
		rates, err = deaths(rates)
		if err != nil {
			return nil, err
		}
	}
	return New(words[nameAt].text, from, rates)
}

// cut cuts a text into its words, by blanks and line feeds.
func cut(text string) []word {
	var words []word
	from := 0
	for i := range len(text) + 1 {
		if i < len(text) && text[i] != ' ' && text[i] != '\n' {
			continue
		}
		if i > from {
			words = append(words, word{text[from:i], from})
		}
		from = i + 1
	}
	return words
}

// headed tells whether a text's first words are those of a table, and if not, where the first one stands that is not. (Which name and age they tell is asked later.)
func headed(words []word, end int) (int, bool) {
	for i := range heads {
		if i == len(words) {
			return end, false
		}
		if !head(i, words[i].text) {
			return words[i].place, false
		}
	}
	return 0, true
}

// head tells whether the word with a number may be so.
func head(i int, text string) bool {
	switch i {
	case tableAt:
		return text == tableWord
	case fromAt:
		return text == fromWord
	case kindAt:
		return text == ratesWord || text == livesWord
	}
	return true
}

// fractions reads each word as a fraction.
func fractions(words []word) ([]frac.Frac, error) {
	l := make([]frac.Frac, len(words))
	for i, w := range words {
		f, err := frac.Parse(w.text)
		if err != nil {
			return nil, &api.At{Err: api.Tell(err), Place: w.place}
		}
		l[i] = f
	}
	return l, nil
}

// deaths are the rates by which those who live at each age become fewer.
func deaths(lives []frac.Frac) ([]frac.Frac, error) {
	rates := make([]frac.Frac, len(lives))
	for i, l := range lives {
		var next frac.Frac
		if i+1 < len(lives) {
			next = lives[i+1]
		}
		stay, err := next.Div(l)
		if err != nil || l.Sign() < 0 {
			return nil, api.ErrArg
		}
		rates[i] = frac.Whole(1).Sub(stay)
	}
	return rates, nil
}
