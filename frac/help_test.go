package frac_test

import (
	"errors"
	"math/big"
	"math/rand"
	"reflect"
	"strings"
	"testing"

	"tontine/api"
	"tontine/frac"
)

const (
	leastInt    = -1 << 63
	greatestInt = 1<<63 - 1
)

// told is an error's Errno and its place (-1: it has none).
func told(err error) (api.Errno, int) {
	var at *api.At
	if errors.As(err, &at) {
		return at.Err, at.Place
	}
	return api.Tell(err), -1
}

// of is a fraction of ints.
func of(t *testing.T, over, under int) frac.Frac {
	t.Helper()
	f, err := frac.Of(over, under)
	if err != nil {
		t.Fatalf("Of(%d, %d): %v", over, under, err)
	}
	return f
}

// read is a fraction of a text, which may be longer than Parse reads.
func read(t *testing.T, text string) frac.Frac {
	t.Helper()
	over, under, _ := strings.Cut(text, "/")
	f := readWhole(t, over)
	if under != "" {
		f = div(t, f, readWhole(t, under))
	}
	return f
}

// readWhole is a whole number, digit group by digit group.
func readWhole(t *testing.T, digits string) frac.Frac {
	t.Helper()
	bare, below := strings.CutPrefix(digits, "-")
	var f frac.Frac
	for i := 0; i < len(bare); i += 15 {
		part := bare[i:min(i+15, len(bare))]
		p, err := frac.Parse(part)
		if err != nil {
			t.Fatalf("Parse(%q): %v", part, err)
		}
		power, _ := frac.Whole(10).Pow(len(part))
		f = f.Mul(power).Add(p)
	}
	if below {
		f = f.Neg()
	}
	return f
}

func div(t *testing.T, f, g frac.Frac) frac.Frac {
	t.Helper()
	q, err := f.Div(g)
	if err != nil {
		t.Fatalf("%s / %s: %v", f.Text(), g.Text(), err)
	}
	return q
}

// rat is a fraction as the library has it.
func rat(t *testing.T, f frac.Frac) *big.Rat {
	t.Helper()
	r, ok := new(big.Rat).SetString(f.Text())
	if !ok {
		t.Fatalf("%q is no fraction", f.Text())
	}
	return r
}

// want fails unless a fraction is written so, and is alike in all to the one that is read from that.
func want(t *testing.T, what string, f frac.Frac, text string) {
	t.Helper()
	if f.Text() != text {
		t.Errorf("%s: %s, not %s", what, f.Text(), text)
	}
	if g := read(t, text); !reflect.DeepEqual(f, g) {
		t.Errorf("%s: %s has a second form inside", what, text)
	}
}

// wantRat fails unless a fraction is the library's.
func wantRat(t *testing.T, what string, f frac.Frac, r *big.Rat) {
	t.Helper()
	if f.Text() != r.RatString() {
		t.Fatalf("%s: %s, not %s", what, f.Text(), r.RatString())
	}
}

// wantError fails unless there is just this error, without a place, and all other results are their zero values.
func wantError(t *testing.T, what string, err error, e api.Errno, others ...any) {
	t.Helper()
	got, place := told(err)
	if got != e || place != -1 {
		t.Errorf("%s: error %d at %d, not %d", what, got, place, e)
	}
	for _, x := range others {
		if !reflect.ValueOf(x).IsZero() {
			t.Errorf("%s: %v beside an error", what, x)
		}
	}
}

// drawn are fractions of all sizes, of both signs, some of them alike, with divisors in common.
func drawn(t *testing.T, seed int64, n int) []frac.Frac {
	t.Helper()
	r := rand.New(rand.NewSource(seed))
	l := []frac.Frac{{}, frac.Whole(1), frac.Whole(-1), of(t, 1, 2), of(t, -1, 2), frac.Whole(leastInt), frac.Whole(greatestInt), of(t, 1, leastInt), of(t, 1, greatestInt), of(t, greatestInt, greatestInt-1), of(t, leastInt, greatestInt)}
	two64, _ := frac.Whole(2).Pow(64)
	l = append(l, two64, two64.Sub(frac.Whole(1)), div(t, frac.Whole(1), two64), div(t, frac.Whole(-3), two64.Sub(frac.Whole(1))))
	for len(l) < n {
		f := of(t, r.Intn(2000)-1000, 1+r.Intn(60))
		if r.Intn(3) == 0 {
			f = of(t, r.Int()-1<<62, 1+r.Int())
		}
		if r.Intn(3) == 0 {
			p, err := f.Pow(r.Intn(12))
			if err != nil {
				t.Fatal(err)
			}
			f = p.Mul(l[r.Intn(len(l))]).Add(of(t, 1, 1+r.Intn(9)))
		}
		l = append(l, f)
	}
	return l
}
