package match_test

import (
	"math/big"
	"math/rand"
	"reflect"
	"strings"
	"testing"

	"tontine/api"
	"tontine/frac"
	"tontine/match"
)

const (
	leastInt    = -1 << 63
	greatestInt = 1<<63 - 1
	most        = 12
)

// wantError fails unless there is just this error, without a place, and the other results are their zero values.
func wantError(t *testing.T, what string, err error, e api.Errno, others ...any) {
	t.Helper()
	if err != error(e) {
		t.Errorf("%s: %v, not %v", what, err, e)
	}
	for _, other := range others {
		if !reflect.ValueOf(other).IsZero() {
			t.Errorf("%s: %v beside an error", what, other)
		}
	}
}

// one is the fraction of a text.
func one(t *testing.T, text string) frac.Frac {
	t.Helper()
	f, err := frac.Parse(text)
	if err != nil {
		t.Fatalf("Parse(%q): %v", text, err)
	}
	return f
}

// fracs are the fractions of a text, with blanks between.
func fracs(t *testing.T, text string) []frac.Frac {
	t.Helper()
	var l []frac.Frac
	for word := range strings.FieldsSeq(text) {
		l = append(l, one(t, word))
	}
	return l
}

// bondsOf are the bonds of a text: prices, colons, what they pay, with semicolons between.
func bondsOf(t *testing.T, text string) []match.Bond {
	t.Helper()
	var l []match.Bond
	if text == "" {
		return nil
	}
	for bond := range strings.SplitSeq(text, ";") {
		price, pays, _ := strings.Cut(bond, ":")
		l = append(l, match.Bond{Price: one(t, strings.TrimSpace(price)), Pays: fracs(t, pays)})
	}
	return l
}

// written tells bonds by texts.
func written(bonds []match.Bond) string {
	text := ""
	for _, b := range bonds {
		text += b.Price.Text() + ": " + frac.Words(b.Pays) + "; "
	}
	return text
}

// rat is a fraction as a big.Rat.
func rat(t *testing.T, f frac.Frac) *big.Rat {
	t.Helper()
	r, ok := new(big.Rat).SetString(f.Text())
	if !ok {
		t.Fatalf("%q is no fraction", f.Text())
	}
	return r
}

// rats are fractions likewise.
func rats(t *testing.T, l []frac.Frac) []*big.Rat {
	t.Helper()
	var out []*big.Rat
	for _, f := range l {
		out = append(out, rat(t, f))
	}
	return out
}

// whole is a whole number as a big.Rat.
func whole(n int) *big.Rat { return big.NewRat(int64(n), 1) }

// add, sub, mul and quo are sums, differences, products and quotients.
func add(x, y *big.Rat) *big.Rat { return new(big.Rat).Add(x, y) }
func sub(x, y *big.Rat) *big.Rat { return new(big.Rat).Sub(x, y) }
func mul(x, y *big.Rat) *big.Rat { return new(big.Rat).Mul(x, y) }
func quo(x, y *big.Rat) *big.Rat { return new(big.Rat).Quo(x, y) }

// pow is a power.
func pow(x *big.Rat, n int) *big.Rat {
	out := whole(1)
	for range n {
		out = mul(out, x)
	}
	return out
}

// drawn is a fraction from 0 on, whose numbers have so many digits, or few.
func drawn(t *testing.T, r *rand.Rand, digits int) frac.Frac {
	t.Helper()
	number := func() string {
		text := string(byte('1' + r.Intn(9)))
		for range digits - 1 {
			text += string(byte('0' + r.Intn(10)))
		}
		return text
	}
	switch r.Intn(6) {
	case 0:
		return frac.Frac{}
	case 1:
		return frac.Whole(r.Intn(20))
	}
	return one(t, number()+"/"+number())
}

// drawnBonds are some, each of which pays so often.
func drawnBonds(t *testing.T, r *rand.Rand, n, years, digits int) []match.Bond {
	t.Helper()
	var l []match.Bond
	for j := range n {
		b := match.Bond{Price: drawn(t, r, digits).Add(frac.Whole(1))}
		for k := range years {
			p := drawn(t, r, digits)
			if j == k { // so that most are worth being bought
				p = p.Mul(frac.Whole(10)).Add(frac.Whole(r.Intn(3)))
			}
			b.Pays = append(b.Pays, p)
		}
		l = append(l, b)
	}
	return l
}
