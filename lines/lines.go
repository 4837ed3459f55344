// Package lines: the lines of texts, and the words of lines.
package lines

import (
	"iter"
	"strconv"
	"strings"
)

// Of goes through a text's lines, each with the place at which it begins.
func Of(text string) iter.Seq2[int, string] {
	return func(yield func(int, string) bool) {
		place, rest := 0, text
		for more := true; more; {
			var line string
			line, rest, more = strings.Cut(rest, "\n")
			if !yield(place, line) {
				return
			}
			place += len(line) + 1
		}
	}
}

// Words goes through a line's words, which have blanks between, each with the place at which it begins.
func Words(line string) iter.Seq2[int, string] {
	return func(yield func(int, string) bool) {
		for place := 0; ; {
			rest := strings.TrimLeft(line[place:], " ")
			if rest == "" {
				return
			}
			word, _, _ := strings.Cut(rest, " ")
			place = len(line) - len(rest)
			if !yield(place, word) {
				return
			}
			place += len(word)
		}
	}
}

// Number is a whole number, if a word writes one as the program would.
func Number(word string) (int, bool) {
	n, err := strconv.Atoi(word)
	return n, err == nil && strconv.Itoa(n) == word
}
