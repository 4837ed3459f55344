package frac

import (
	"strings"

	"tontine/api"
	"tontine/nat"
)

// written is a fraction's text, cut into its parts.
type written struct {
	below   bool
	whole   string // the digits up to the line, the point or the end
	kind    byte   // '/' or '.', 0 without either
	behind  string // the digits behind it
	percent bool
}

// Parse reads a fraction: 3, -3/4, 0.75, 12.5%.
func Parse(text string) (Frac, error) {
	w, place := cut(text)
	if place >= 0 {
		return Frac{}, &api.At{Err: api.ErrForm, Place: place}
	}
	if w.aboveDigits() > api.MaxDigits || w.underDigits() > api.MaxDigits {
		return Frac{}, api.ErrLimit
	}
	over, under := w.numbers()
	if len(under) == 0 {
		return Frac{}, api.ErrZero
	}
	return ofNumbers(w.below, over, under), nil
}

// cut cuts a text into its parts; if it is none, it tells the place from which on it is not (else -1).
func cut(text string) (written, int) {
	var w written
	at := 0
	if strings.HasPrefix(text, "-") {
		w.below, at = true, 1
	}
	end := digitsEnd(text, at)
	if end == at {
		return written{}, at
	}
	w.whole, at = text[at:end], end
	if at < len(text) && (text[at] == '/' || text[at] == '.') {
		end = digitsEnd(text, at+1)
		if end == at+1 {
			return written{}, end
		}
		w.kind, w.behind, at = text[at], text[at+1:end], end
	}
	if at < len(text) && text[at] == '%' {
		w.percent = true
		at++
	}
	if at < len(text) {
		return written{}, at
	}
	return w, -1
}

// digitsEnd is where the digits end that stand from a place on.
func digitsEnd(text string, at int) int {
	for at < len(text) && text[at] >= '0' && text[at] <= '9' {
		at++
	}
	return at
}

// aboveDigits is how many digits stand above the line.
func (w written) aboveDigits() int {
	if w.kind == '.' {
		return len(w.whole) + len(w.behind)
	}
	return len(w.whole)
}

// underDigits is how many digits stand below the line; behind a point these are 1 and noughts.
func (w written) underDigits() int {
	if w.kind == '/' {
		return len(w.behind)
	}
	return 1 + len(w.behind)
}

// numbers are those above and below the line.
func (w written) numbers() (over, under nat.Nat) {
	over, under = nat.Read(w.whole), nat.Of(1)
	switch w.kind {
	case '/':
		under = nat.Read(w.behind)
	case '.':
		over = nat.Read(w.whole + w.behind)
		under = nat.Of(10).Pow(len(w.behind))
	}
	if w.percent {
		under = under.Mul(nat.Of(100))
	}
	return over, under
}
