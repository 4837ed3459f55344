package triangle

import (
	"strconv"
	"strings"

	"tontine/api"
	"tontine/lines"
)

// Text writes a triangle, year by year.
func Text(t Triangle) (string, error) {
	if err := Check(t); err != nil {
		return "", err
	}
	var text strings.Builder
	for _, row := range t {
		for k, paid := range row {
			if k > 0 {
				text.WriteByte(' ')
			}
			text.WriteString(strconv.Itoa(paid))
		}
		text.WriteByte('\n')
	}
	return text.String(), nil
}

// Parse reads a triangle.
func Parse(text string) (Triangle, error) {
	if len(text) > api.MaxText {
		return nil, api.ErrLimit
	}
	var t Triangle
	for place, line := range lines.Of(text) {
		row, err := read(line, place)
		if err != nil {
			return nil, err
		}
		if len(row) > 0 {
			t = append(t, row)
		}
	}
	if err := Check(t); err != nil {
		return nil, err
	}
	return t, nil
}

// read reads the numbers of a line that begins at a place.
func read(line string, place int) ([]int, error) {
	var row []int
	for at, word := range lines.Words(line) {
		paid, ok := lines.Number(word)
		if !ok {
			return nil, &api.At{Err: api.ErrForm, Place: place + at}
		}
		row = append(row, paid)
	}
	return row, nil
}
