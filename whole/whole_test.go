package whole

import (
	"strings"
	"testing"

	"tontine/frac"
)

// fracs are the fractions of a text, with blanks between.
func fracs(t *testing.T, text string) []frac.Frac {
	t.Helper()
	var l []frac.Frac
	for _, w := range strings.Fields(text) {
		f, err := frac.Parse(w)
		if err != nil {
			t.Fatal(err)
		}
		l = append(l, f)
	}
	return l
}

// The lower number is found, however long it is.
func TestLower(t *testing.T) {
	for _, c := range []struct{ f, under string }{{"0", "1"}, {"7", "1"}, {"-7", "1"}, {"3/4", "4"}, {"-3/4", "4"}, {"6/8", "4"}, {"1/18446744073709551617", "18446744073709551617"}} {
		if got := lower(fracs(t, c.f)[0]); got.Text() != c.under {
			t.Errorf("%s: %s", c.f, got.Text())
		}
	}
	for _, digits := range []int{59, 60, 61, 119, 120, 121, 150} {
		power, _ := frac.Whole(10).Pow(digits - 1)
		under := power.Add(frac.Whole(1))
		f, _ := frac.Whole(10).Div(under)
		if got := lower(f); got.Cmp(under) != 0 || !strings.HasSuffix(f.Text(), "/"+got.Text()) {
			t.Errorf("%d digits: %s", digits, got.Text())
		}
	}
}

// The least common lower number of all lists, and none of no fractions.
func TestCommon(t *testing.T) {
	for _, c := range []struct{ lists, under string }{{"", "1"}, {"0", "1"}, {"3 -2", "1"}, {"1/4", "4"}, {"1/4 1/6", "12"}, {"1/4;1/6;-5/9 2", "36"}, {";1/2;", "2"}} {
		var lists [][]frac.Frac
		for _, l := range strings.Split(c.lists, ";") {
			lists = append(lists, fracs(t, l))
		}
		if got := Common(lists...); got.Text() != c.under {
			t.Errorf("%s: %s", c.lists, got.Text())
		}
	}
	if got := Common(); got.Text() != "1" {
		t.Errorf("no lists: %s", got.Text())
	}
}

// Times hands out a list of its own.
func TestTimes(t *testing.T) {
	l := fracs(t, "1/4 -1/6 0 2")
	got := Times(l, frac.Whole(12))
	if frac.Words(got) != "3 -2 0 24" || frac.Words(l) != "1/4 -1/6 0 2" {
		t.Errorf("%s of %s", frac.Words(got), frac.Words(l))
	}
}
