package treaty

import (
	"strconv"
	"strings"

	"tontine/api"
	"tontine/frac"
	"tontine/lines"
)

// form is how lines of a kind are written. An excess that is had again has a form of its own.
type form struct {
	kind  int
	again bool
	text  string
}

// forms are all of them; what a line has stands in the place of their great words.
var forms = [...]form{
	{Cede, false, "cede SHARE to NAME"},
	{Surplus, false, "surplus LIMIT times TIMES to NAME"},
	{Excess, false, "excess FROM limit LIMIT to NAME"},
	{Excess, true, "excess FROM limit LIMIT again TIMES at PRICE to NAME"},
	{Stop, false, "stop FROM limit LIMIT to NAME"},
}

// The great words.
const (
	shareWord = "SHARE"
	fromWord  = "FROM"
	limitWord = "LIMIT"
	timesWord = "TIMES"
	priceWord = "PRICE"
	nameWord  = "NAME"
)

// Text writes a treaty, line by line.
func Text(l []Line) (string, error) {
	if err := Check(l); err != nil {
		return "", err
	}
	var text strings.Builder
	for _, x := range l {
		if x.Times == 0 && x.Price != 0 { // the form without TIMES has no place for a price
			return "", api.ErrArg
		}
		text.WriteString(x.text())
		text.WriteByte('\n')
	}
	return text.String(), nil
}

// text writes a line that may be.
func (x Line) text() string {
	words := cut(x.form())
	for i, word := range words {
		words[i] = x.said(word)
	}
	return strings.Join(words, " ")
}

// form is how a line is written.
func (x Line) form() string {
	for _, f := range forms {
		if f.kind == x.Kind && f.again == (x.Kind == Excess && x.Times != 0) {
			return f.text
		}
	}
	return ""
}

// said is what stands in a line's text in the place of a word of its form.
func (x Line) said(word string) string {
	switch word {
	case shareWord:
		return x.Share.Text()
	case fromWord:
		return strconv.Itoa(x.From)
	case limitWord:
		return strconv.Itoa(x.Limit)
	case timesWord:
		return strconv.Itoa(x.Times)
	case priceWord:
		return strconv.Itoa(x.Price)
	case nameWord:
		return x.To
	}
	return word
}

// Parse reads a treaty.
func Parse(text string) ([]Line, error) {
	if len(text) > api.MaxText {
		return nil, api.ErrLimit
	}
	var l []Line
	for place, line := range lines.Of(text) {
		words := cut(line)
		if len(words) == 0 {
			continue
		}
		x, err := read(words)
		if err != nil {
			return nil, &api.At{Err: api.Tell(err), Place: place}
		}
		l = append(l, x)
	}
	if err := Check(l); err != nil {
		return nil, err
	}
	return l, nil
}

// cut cuts a line into its words, by blanks.
func cut(line string) []string {
	next := func() string {
		word, rest, _ := strings.Cut(strings.TrimLeft(line, " "), " ")
		line = rest
		return word
	}
	var words []string
	for word := next(); word != ""; word = next() {
		words = append(words, word)
	}
	return words
}

// read reads a line that has words, and says whether it may be, whatever stands ahead of it.
func read(words []string) (Line, error) {
	for _, f := range forms {
		wanted := cut(f.text)
		if words[0] != wanted[0] || len(words) != len(wanted) {
			continue
		}
		x := Line{Kind: f.kind}
		for i, word := range words {
			if err := x.hear(wanted[i], word); err != nil {
				return Line{}, err
			}
		}
		return x, x.check()
	}
	return Line{}, api.ErrForm
}

// hear takes a word that stands in the place of one of a line's form.
func (x *Line) hear(wanted, word string) error {
	switch wanted {
	case shareWord:
		share, err := frac.Parse(word)
		x.Share = share
		return err
	case fromWord:
		return number(word, &x.From)
	case limitWord:
		return number(word, &x.Limit)
	case timesWord:
		return x.hearTimes(word)
	case priceWord:
		return number(word, &x.Price)
	case nameWord:
		x.To = strings.Clone(word) // the text is not kept
		return nil
	}
	if word != wanted {
		return api.ErrForm
	}
	return nil
}

// hearTimes takes how often: an excess that is never had again has the other form.
func (x *Line) hearTimes(word string) error {
	if err := number(word, &x.Times); err != nil {
		return err
	}
	if x.Kind == Excess && x.Times == 0 {
		return api.ErrArg
	}
	return nil
}

// number puts a whole number there, if a word writes one as the program would.
func number(word string, there *int) error {
	n, ok := lines.Number(word)
	if !ok {
		return api.ErrForm
	}
	*there = n
	return nil
}
