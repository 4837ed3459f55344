package frac_test

import (
	"reflect"
	"strings"
	"testing"

	"tontine/api"
	"tontine/frac"
)

// 1.3: what Parse reads.
func TestParse(t *testing.T) {
	for _, c := range []struct{ text, f string }{
		{"3", "3"}, {"0", "0"}, {"-0", "0"}, {"-3", "-3"}, {"007", "7"}, {"-007", "-7"}, {"000", "0"},
		{"3/4", "3/4"}, {"-3/4", "-3/4"}, {"6/8", "3/4"}, {"006/008", "3/4"}, {"0/5", "0"}, {"-0/5", "0"}, {"8/4", "2"}, {"1/0000000000000000000001", "1"},
		{"0.75", "3/4"}, {"-0.75", "-3/4"}, {"12.50", "25/2"}, {"00.10", "1/10"}, {"1.0", "1"}, {"-0.0", "0"}, {"0.333", "333/1000"},
		{"12.5%", "1/8"}, {"100%", "1"}, {"-12.50%", "-1/8"}, {"3/4%", "3/400"}, {"0%", "0"}, {"-5%", "-1/20"}, {"007%", "7/100"}, {"200/4%", "1/2"},
		{"9223372036854775808", "9223372036854775808"}, {"18446744073709551616", "18446744073709551616"}, {"-18446744073709551615/18446744073709551616", "-18446744073709551615/18446744073709551616"},
		{"3.14159265358979", "314159265358979/100000000000000"},
	} {
		f, err := frac.Parse(c.text)
		if err != nil {
			t.Errorf("%q: %v", c.text, err)
		}
		want(t, c.text, f, c.f)
	}
}

// 1.3: ErrForm at the first byte that can't stand there, or at the text's length.
func TestParseForm(t *testing.T) {
	long := strings.Repeat("7", api.MaxDigits+1)
	for _, c := range []struct {
		text  string
		place int
	}{
		{"", 0}, {"-", 1}, {"1/", 2}, {"1.", 2}, {"-1/", 3}, {"-12.", 4}, {"12/", 3},
		{"+1", 0}, {" 1", 0}, {"1 ", 1}, {"--1", 1}, {"-+1", 1}, {"- 1", 1}, {"-/2", 1}, {"-.5", 1}, {"-%", 1}, {"/2", 0}, {".5", 0}, {"%", 0}, {"x", 0},
		{"1e3", 1}, {"1,5", 1}, {"12x", 2}, {"1-", 1}, {"1/x", 2}, {"1.x", 2}, {"1/-2", 2}, {"1.-2", 2}, {"1/%", 2}, {"1.%", 2}, {"1/ 2", 2}, {"1//2", 2}, {"1..2", 2}, {"1/.2", 2}, {"1./2", 2},
		{"1/2/3", 3}, {"1/2.3", 3}, {"1.2.3", 3}, {"1.2/3", 3}, {"1/2x", 3}, {"1%%", 2}, {"1%/2", 2}, {"1%.5", 2}, {"1%2", 2}, {"1/2%x", 4}, {"12.5% ", 5}, {"1\n", 1}, {"1\x00", 1},
		{"\xff", 0}, {"1\xc3\xa4", 1}, {"1/\xd9\xa3", 2}, {"\u0663", 0}, {"\uff11", 0}, {"\u22121", 0},
		{"1/0x", 3}, {"1/0/", 3}, {long + "x", len(long)}, {long + "/", len(long) + 1}, {"1/" + long + "x", len(long) + 2}, {"0." + long + ".", len(long) + 2},
	} {
		f, err := frac.Parse(c.text)
		e, place := told(err)
		if e != api.ErrForm || place != c.place {
			t.Errorf("%q: error %d at %d, not at %d", c.text, e, place, c.place)
		}
		if !reflect.ValueOf(f).IsZero() {
			t.Errorf("%q: %s beside an error", c.text, f.Text())
		}
	}
}

// 1.3: as many digits as are allowed, above and below the line, and one more (noughts count); ErrLimit is told ahead of ErrZero.
func TestParseLimit(t *testing.T) {
	d := func(digit string, n int) string { return strings.Repeat(digit, n) }
	const most = api.MaxDigits
	for _, text := range []string{
		d("9", most), "-" + d("9", most), d("9", most) + "%", d("0", most), d("0", most-1) + "1",
		"1/" + d("3", most), d("9", most) + "/" + d("7", most), "-" + d("9", most) + "/" + d("7", most) + "%", "1/" + d("0", most-1) + "1",
		"0." + d("1", most-1), d("1", most-1) + ".5", d("0", most-1) + ".0", "1." + d("0", most-1) + "%", d("5", most/2) + "." + d("5", most/2),
	} {
		f, err := frac.Parse(text)
		if err != nil {
			t.Errorf("%q: %v", text, err)
		}
		bare, percent := strings.CutSuffix(text, "%")
		whole, behind, _ := strings.Cut(bare, ".")
		power, _ := frac.Whole(10).Pow(len(behind))
		asked := div(t, read(t, whole+behind), power)
		if strings.Contains(text, "/") {
			asked = read(t, bare)
		}
		if percent {
			asked = asked.Mul(of(t, 1, 100))
		}
		if f.Cmp(asked) != 0 {
			t.Errorf("%q: %s", text, f.Text())
		}
	}
	for _, text := range []string{
		d("9", most+1), "-" + d("9", most+1), d("0", most+1), d("0", most) + "1", d("9", most+1) + "%", d("9", most+1) + "/3",
		"1/" + d("3", most+1), "1/" + d("0", most+1), "1/" + d("0", most) + "1", d("9", most+1) + "/0", d("9", most) + "/" + d("7", most+1) + "%",
		"0." + d("1", most), "0." + d("0", most), d("1", most) + ".5", d("1", most) + ".0%", d("5", most/2) + "." + d("5", most/2+1), d("1", 10*most),
	} {
		f, err := frac.Parse(text)
		wantError(t, text, err, api.ErrLimit, f)
	}
}

// 1.3: ErrZero.
func TestParseZero(t *testing.T) {
	for _, text := range []string{"1/0", "0/0", "-5/000", "1/0%", strings.Repeat("9", api.MaxDigits) + "/" + strings.Repeat("0", api.MaxDigits)} {
		f, err := frac.Parse(text)
		wantError(t, text, err, api.ErrZero, f)
	}
}

// What is written is read again as it was, as long as no more digits are written than are read.
func TestWrittenAndRead(t *testing.T) {
	l := drawn(t, 6, 200)
	sixty, _ := frac.Whole(10).Pow(api.MaxDigits)
	last := sixty.Sub(frac.Whole(1))
	l = append(l, last, last.Neg(), div(t, frac.Whole(1), last), div(t, last.Sub(frac.Whole(1)), last))
	for _, f := range l {
		text := f.Text()
		over, under, _ := strings.Cut(strings.TrimPrefix(text, "-"), "/")
		if len(over) > api.MaxDigits || len(under) > api.MaxDigits {
			continue
		}
		g, err := frac.Parse(text)
		if err != nil {
			t.Fatalf("%q: %v", text, err)
		}
		want(t, "read again", g, text)
	}
	_, err := frac.Parse(sixty.Text())
	wantError(t, "a digit more", err, api.ErrLimit)
}
