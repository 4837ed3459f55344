package chain

import (
	"testing"

	"tontine/frac"
)

func fracOf(t *testing.T, text string) frac.Frac {
	t.Helper()
	f, err := frac.Parse(text)
	if err != nil {
		t.Fatal(err)
	}
	return f
}

// A year has the least common lower number, and whole numbers above it.
func TestYearOf(t *testing.T) {
	m := Matrix{{fracOf(t, "1/4"), fracOf(t, "3/4"), fracOf(t, "0")}, {fracOf(t, "1/6"), fracOf(t, "1/3"), fracOf(t, "1/2")}, {fracOf(t, "0"), fracOf(t, "0"), fracOf(t, "1")}}
	y := yearOf(m)
	if y.under.Text() != "12" || frac.Words(y.over[0]) != "3 9 0" || frac.Words(y.over[1]) != "2 4 6" || frac.Words(y.over[2]) != "0 0 12" {
		t.Errorf("%s under %v", y.under.Text(), y.over)
	}
	r := rowOf(m[1])
	if r.under.Text() != "6" || frac.Words(r.over) != "1 2 3" {
		t.Errorf("%s under %s", r.under.Text(), frac.Words(r.over))
	}
	next := r.behind(y)
	if next.under.Text() != "72" || frac.Words(next.over) != "7 17 48" {
		t.Errorf("%s under %s", next.under.Text(), frac.Words(next.over))
	}
}
