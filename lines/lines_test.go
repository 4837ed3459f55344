package lines

import (
	"math/rand"
	"strconv"
	"strings"
	"testing"
)

// told tells what is gone through: each with its place.
func told(through func(func(int, string) bool)) string {
	text := ""
	for place, piece := range through {
		text += strconv.Itoa(place) + " " + strconv.Quote(piece) + ";"
	}
	return text
}

// A text without line feeds is one line, and a line feed at the end has the empty line behind it.
func TestLines(t *testing.T) {
	for _, c := range []struct{ text, lines string }{
		{"", `0 "";`},
		{"a", `0 "a";`},
		{"\n", `0 "";1 "";`},
		{"a b\n", `0 "a b";4 "";`},
		{" a\n\nb", `0 " a";3 "";4 "b";`},
		{"a\r\nb", `0 "a\r";3 "b";`},
	} {
		if got := told(Of(c.text)); got != c.lines {
			t.Errorf("%q: %s", c.text, got)
		}
	}
}

// Words have blanks between, and at both ends, as many as there are; other bytes are of words.
func TestWords(t *testing.T) {
	for _, c := range []struct{ line, words string }{
		{"", ""},
		{"   ", ""},
		{"a", `0 "a";`},
		{"a b", `0 "a";2 "b";`},
		{"  a   bc ", `2 "a";6 "bc";`},
		{"a\tb\nc d", `0 "a\tb\nc";6 "d";`},
		{" \xff é ", `1 "\xff";3 "é";`},
	} {
		if got := told(Words(c.line)); got != c.words {
			t.Errorf("%q: %s", c.line, got)
		}
	}
}

// Each piece stands at its place, and all of them are all of the text.
func TestPlaces(t *testing.T) {
	r := rand.New(rand.NewSource(1))
	for range 5000 {
		text := ""
		for range r.Intn(20) {
			text += []string{" ", "\n", "a", "-1", "\x00"}[r.Intn(5)]
		}
		var lines, all []string
		for place, line := range Of(text) {
			if text[place:place+len(line)] != line {
				t.Fatalf("%q: %q at %d", text, line, place)
			}
			lines = append(lines, line)
			for at, word := range Words(line) {
				if line[at:at+len(word)] != word {
					t.Fatalf("%q: %q at %d", line, word, at)
				}
				all = append(all, word)
			}
		}
		if strings.Join(lines, "\n") != text || strings.Join(all, " ") != strings.Join(strings.Fields(text), " ") {
			t.Fatalf("%q: %q, %q", text, lines, all)
		}
	}
}

// Going through may end early.
func TestBreak(t *testing.T) {
	for range Of("a\nb") {
		break
	}
	for range Words("a b") {
		break
	}
}

// A number is written in one way alone.
func TestNumber(t *testing.T) {
	for _, n := range []int{0, 1, -1, 10, -10, 1<<63 - 1, -1 << 63} {
		if got, ok := Number(strconv.Itoa(n)); !ok || got != n {
			t.Errorf("%d: %d, %t", n, got, ok)
		}
	}
	for _, word := range []string{"", "-", "+1", "-0", "00", "01", "-01", "1.", "1/1", "1_0", "0x1", "1e3", "x", " 1", "1 ", "--1", "9223372036854775808", "-9223372036854775809", "١"} {
		if n, ok := Number(word); ok {
			t.Errorf("%q is read as %d", word, n)
		}
	}
}
