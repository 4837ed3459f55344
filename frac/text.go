package frac

import (
	"strings"

	"tontine/api"
)

// Text writes a fraction: lowered, a whole number alone.
func (f Frac) Text() string {
	over, under := f.numbers()
	text := over.Text()
	if f.below {
		text = "-" + text
	}
	if !under.One() {
		text += "/" + under.Text()
	}
	return text
}

// Words writes fractions, with blanks between.
func Words(l []Frac) string {
	texts := make([]string, len(l))
	for i, f := range l {
		texts[i] = f.Text()
	}
	return strings.Join(texts, " ")
}

// Decimal writes a fraction with so many places behind the point, rounded to the nearest, of two to the even one.
func (f Frac) Decimal(places int) (string, error) {
	if places < 0 || places > api.MaxPlaces {
		return "", api.ErrRange
	}
	power := 1
	for range places {
		power *= 10
	}
	units := f.Mul(Whole(power)).nearest()
	digits := units.abs().Text()
	if len(digits) <= places {
		digits = strings.Repeat("0", places+1-len(digits)) + digits
	}
	point := len(digits) - places
	text := digits[:point]
	if places > 0 {
		text += "." + digits[point:]
	}
	if units.below {
		text = "-" + text
	}
	return text, nil
}
