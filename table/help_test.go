package table_test

import (
	"errors"
	"math/big"
	"math/rand"
	"reflect"
	"strings"
	"testing"

	"tontine/api"
	"tontine/frac"
	"tontine/table"
)

const (
	leastInt    = -1 << 63
	greatestInt = 1<<63 - 1
	noPlace     = -1
)

// told is an error's Errno and its place.
func told(err error) (api.Errno, int) {
	var at *api.At
	if errors.As(err, &at) {
		return at.Err, at.Place
	}
	return api.Tell(err), noPlace
}

// wantError fails unless there is just this error at this place, and the other result is its zero value.
func wantError(t *testing.T, what string, err error, e api.Errno, place int, other any) {
	t.Helper()
	if got, at := told(err); got != e || at != place {
		t.Errorf("%s: error %d at %d, not %d at %d", what, got, at, e, place)
	}
	if !reflect.ValueOf(other).IsZero() {
		t.Errorf("%s: %v beside an error", what, other)
	}
}

// want fails unless a fraction is written so, without an error.
func want(t *testing.T, what string, f frac.Frac, err error, text string) {
	t.Helper()
	if err != nil {
		t.Errorf("%s: %v", what, err)
	}
	if f.Text() != text {
		t.Errorf("%s: %s, not %s", what, f.Text(), text)
	}
}

// fracs are the fractions of a text, with blanks between.
func fracs(t *testing.T, text string) []frac.Frac {
	t.Helper()
	var l []frac.Frac
	for _, w := range strings.Fields(text) {
		f, err := frac.Parse(w)
		if err != nil {
			t.Fatalf("Parse(%q): %v", w, err)
		}
		l = append(l, f)
	}
	return l
}

// one is the fraction of a text.
func one(t *testing.T, text string) frac.Frac {
	t.Helper()
	return fracs(t, text)[0]
}

// made is a table that may be.
func made(t *testing.T, name string, from int, rates string) *table.Table {
	t.Helper()
	l, err := table.New(name, from, fracs(t, rates))
	if err != nil {
		t.Fatalf("New(%q, %d, %s): %v", name, from, rates, err)
	}
	return l
}

// read is a table of a text.
func read(t *testing.T, text string) *table.Table {
	t.Helper()
	l, err := table.Read(text)
	if err != nil {
		t.Fatalf("Read(%q): %v", text, err)
	}
	return l
}

// rat is a fraction as the library has it.
func rat(t *testing.T, f frac.Frac) *big.Rat {
	t.Helper()
	r, ok := new(big.Rat).SetString(f.Text())
	if !ok {
		t.Fatalf("%q is no fraction", f.Text())
	}
	return r
}

// drawn is a fraction from 0 to less than 1, and now and then 0.
func drawn(r *rand.Rand) frac.Frac {
	under := 1 + r.Intn(1000)
	f, _ := frac.Of(r.Intn(under), under)
	return f
}
