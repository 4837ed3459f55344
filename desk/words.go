package desk

import (
	"strconv"
	"strings"

	"tontine/api"
	"tontine/frac"
	"tontine/lines"
	"tontine/table"
)

// fine answers a line that has nothing to tell.
const fine = "ok"

const placesTold = 2

// throw ends a line with an error, if there is one.
func throw(err error) {
	if err != nil {
		panic(api.Tell(err))
	}
}

// sure is what a call answers; its error is thrown.
func sure[T any](answer T, err error) T {
	throw(err)
	return answer
}

// thrownText tells what was thrown. What is no Errno would be a fault of the program, not of a line: it has the number that api.Tell gives such an error.
func thrownText(thrown any) string {
	e, ok := thrown.(api.Errno)
	if !ok {
		e = -1
	}
	return errorText(e)
}

// errorText tells an error.
func errorText(e api.Errno) string { return "error " + strconv.Itoa(int(e)) }

// count throws, unless there are so many words.
func count(words []string, least, most int) {
	if len(words) < least || len(words) > most {
		throw(api.ErrForm)
	}
}

// number reads a whole number.
func number(word string) int {
	n, ok := lines.Number(word)
	if !ok {
		throw(api.ErrForm)
	}
	return n
}

// fraction reads one.
func fraction(word string) frac.Frac { return sure(frac.Parse(word)) }

// fractions reads one of each word.
func fractions(words []string) []frac.Frac {
	l := make([]frac.Frac, len(words))
	for i, word := range words {
		l[i] = fraction(word)
	}
	return l
}

// named is the table that has a name.
func (h *house) named(name string) *table.Table {
	t, there := h.tables[name]
	if !there {
		throw(api.ErrMissing)
	}
	return t
}

// fractionText tells a fraction, as it is and with places.
func fractionText(f frac.Frac) string { return f.Text() + " " + sure(f.Decimal(placesTold)) }

// numbersText tells numbers, with blanks between.
func numbersText(l ...int) string {
	texts := make([]string, len(l))
	for i, n := range l {
		texts[i] = strconv.Itoa(n)
	}
	return strings.Join(texts, " ")
}
