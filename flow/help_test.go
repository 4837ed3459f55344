package flow_test

import (
	"math/big"
	"math/rand"
	"reflect"
	"strings"
	"testing"

	"tontine/api"
	"tontine/flow"
	"tontine/frac"
)

const (
	leastInt    = -1 << 63
	greatestInt = 1<<63 - 1
)

// wantError fails unless there is just this error, without a place, and the other results are their zero values.
func wantError(t *testing.T, what string, err error, e api.Errno, others ...any) {
	t.Helper()
	if err != error(e) {
		t.Errorf("%s: %v, not %v", what, err, e)
	}
	for _, x := range others {
		if !reflect.ValueOf(x).IsZero() {
			t.Errorf("%s: %v beside an error", what, x)
		}
	}
}

// want fails unless a fraction is written so, without an error.
func want(t *testing.T, what string, f frac.Frac, err error, text string) {
	t.Helper()
	if err != nil {
		t.Errorf("%s: %v", what, err)
	}
	if f.Text() != text {
		t.Errorf("%s: %s, not %s", what, f.Text(), text)
	}
}

// wantRat fails unless a fraction is what the library reckons.
func wantRat(t *testing.T, what string, f frac.Frac, r *big.Rat) {
	t.Helper()
	if rat(t, f).Cmp(r) != 0 {
		t.Fatalf("%s: %s, not %s", what, f.Text(), r.RatString())
	}
}

// fracs are the fractions of a text, with blanks between.
func fracs(t *testing.T, text string) []frac.Frac {
	t.Helper()
	var l []frac.Frac
	for _, w := range strings.Fields(text) {
		f, err := frac.Parse(w)
		if err != nil {
			t.Fatalf("Parse(%q): %v", w, err)
		}
		l = append(l, f)
	}
	return l
}

// one is the fraction of a text.
func one(t *testing.T, text string) frac.Frac {
	t.Helper()
	return fracs(t, text)[0]
}

// rat is a fraction as the library has it.
func rat(t *testing.T, f frac.Frac) *big.Rat {
	t.Helper()
	r, ok := new(big.Rat).SetString(f.Text())
	if !ok {
		t.Fatalf("%q is no fraction", f.Text())
	}
	return r
}

// rats are those of fractions.
func rats(t *testing.T, l []frac.Frac) []*big.Rat {
	t.Helper()
	var out []*big.Rat
	for _, f := range l {
		out = append(out, rat(t, f))
	}
	return out
}

// drawn is a fraction of either sign.
func drawn(r *rand.Rand) frac.Frac {
	f, _ := frac.Of(r.Intn(2001)-1000, 1+r.Intn(40))
	return f
}

// drawnRate is a rate that may be, now and then a great one or one near -1.
func drawnRate(r *rand.Rand) frac.Frac {
	under := 1 + r.Intn(200)
	f, _ := frac.Of(r.Intn(3*under)-under+1, under)
	return f
}

// drawnList are so many of what is drawn.
func drawnList(r *rand.Rand, n int, draw func(*rand.Rand) frac.Frac) []frac.Frac {
	var l []frac.Frac
	for range n {
		l = append(l, draw(r))
	}
	return l
}

// drawnLong is a fraction of numbers with so many digits.
func drawnLong(r *rand.Rand, digits int) frac.Frac {
	number := func() frac.Frac {
		var n frac.Frac
		for range digits {
			n = n.Mul(frac.Whole(10)).Add(frac.Whole(1 + r.Intn(9)))
		}
		return n
	}
	f, _ := number().Div(number())
	return f
}

// written are spans as a text: low and high, with ; between.
func written(l []flow.Span) string {
	var texts []string
	for _, s := range l {
		texts = append(texts, s.Low.Text()+" "+s.High.Text())
	}
	return strings.Join(texts, "; ")
}
