package order_test

import (
	"fmt"
	"math/rand"
	"slices"
	"strings"
	"testing"

	"tontine/api"
	"tontine/claims"
	"tontine/frac"
	"tontine/order"
)

// asked is a call, and its results but for the error.
type asked struct {
	what string
	call func(a, b claims.Law) ([]any, error)
}

// calls are all that there are.
func calls() []asked {
	say := func(call func(a, b claims.Law) (bool, int, error)) func(a, b claims.Law) ([]any, error) {
		return func(a, b claims.Law) ([]any, error) {
			below, x, err := call(a, b)
			return []any{below, x}, err
		}
	}
	show := func(call func(a, b claims.Law) ([][]frac.Frac, error)) func(a, b claims.Law) ([]any, error) {
		return func(a, b claims.Law) ([]any, error) {
			m, err := call(a, b)
			return []any{m}, err
		}
	}
	return []asked{{"Always", say(order.Always)}, {"Rather", say(order.Rather)}, {"Beside", show(order.Beside)}, {"Spread", show(order.Spread)}}
}

// 9.1: all calls say what is wrong with a law, with the first one first.
func TestLaws(t *testing.T) {
	good := law(t, "1/2 1/2")
	tiny := "1/" + strings.Repeat("9", api.MaxDigits)
	for _, c := range calls() {
		for _, s := range []struct {
			what string
			l    claims.Law
			e    api.Errno
		}{
			{"nil", nil, api.ErrLimit},
			{"no numbers", claims.Law{}, api.ErrLimit},
			{"a number too many, which is a nought", sure(api.MaxSize, 1), api.ErrLimit},
			{"far too many", make(claims.Law, 100000), api.ErrLimit},
			{"below 0", law(t, "-1/2 3/2"), api.ErrArg},
			{"below 0, not 1 together", law(t, "1 1 -1/2"), api.ErrArg},
			{"noughts", law(t, "0 0"), api.ErrSum},
			{"less than 1 together", law(t, "1/2 1/3"), api.ErrSum},
			{"a little more than 1", law(t, "1/2 1/2 "+tiny), api.ErrSum},
		} {
			for _, other := range []claims.Law{good, law(t, "-1"), law(t, "1/2"), nil, sure(60, 0)} {
				out, err := c.call(s.l, other)
				wantError(t, c.what+", first "+s.what, err, s.e, out...)
			}
			out, err := c.call(good, s.l)
			wantError(t, c.what+", second "+s.what, err, s.e, out...)
		}
		if _, err := c.call(good, good); err != nil {
			t.Errorf("%s of one law twice: %v", c.what, err)
		}
	}
}

// 9.1: by hand.
func TestByHand(t *testing.T) {
	for _, s := range []struct {
		a, b   string
		always bool
		x      int
		rather bool
		y      int
	}{
		{"1", "1", true, 0, true, 0},
		{"1", "0 1", true, 0, true, 0},
		{"0 1", "1", false, 0, false, 0},
		{"1 0 0", "0 1", true, 0, true, 0},
		{"0 1", "1 0 0", false, 0, false, 0},
		{"0 1", "0 1 0 0", true, 0, true, 0},
		{"0 1 0 0", "0 1", true, 0, true, 0},
		{"0 1", "1/2 0 1/2", false, 0, true, 0},                        // one mean, spread
		{"1/2 0 1/2", "0 1", false, 1, false, 1},                       // the other way round
		{"0 0 0 1", "1/4 0 0 0 3/4", false, 0, true, 0},                // one mean again
		{"0 0 0 1", "1/4 0 0 1/8 5/8", false, 0, false, 0},             // a little less
		{"1/2 0 0 0 0 1/2", "0 0 1/2 1/2", false, 3, false, 1},         // one mean
		{"2/3 0 0 0 0 1/3", "0 0 1/2 1/2", false, 3, false, 2},         // cheaper, but dearer far out
		{"9/10 0 0 0 0 0 0 0 0 0 1/10", "0 0 1", false, 2, false, 2},   // above 2 only it is
		{"9/10 0 0 0 0 0 0 0 0 0 1/10", "0 1", false, 1, false, 1},     // dearer beyond 1 for the first time
		{"1/2 1/2", "1/2 1/4 1/4", true, 0, true, 0},                   // alike above 0
		{"1/2 1/4 1/4", "1/2 1/2", false, 1, false, 0},                 // dearer at once
		{"1/3 1/3 1/3", "1/3 1/3 1/3", true, 0, true, 0},               // alike
		{"1/3 1/3 1/3", "1/3 1/3 1/3 0 0 0", true, 0, true, 0},         // alike
		{"0 0 1/2 1/2", "0 1/2 0 0 1/2", false, 1, true, 0},            // crosses at 1
		{"0 0 0 1", "0 0 1/2 0 1/4 0 0 0 0 1/4", false, 2, true, 0},    // crosses at 2
		{"0 1/2 0 0 0 0 0 0 1/2", "0 0 0 0 0 1", false, 5, false, 3},   // crosses at 5
		{"0 1/2 0 0 0 0 0 0 0 1/2", "0 0 0 0 0 1", false, 5, false, 2}, // one mean
	} {
		what := s.a + " | " + s.b
		below, x, err := order.Always(law(t, s.a), law(t, s.b))
		if below != s.always || x != s.x || err != nil {
			t.Errorf("Always %s: %v, %d, %v", what, below, x, err)
		}
		below, x, err = order.Rather(law(t, s.a), law(t, s.b))
		if below != s.rather || x != s.y || err != nil {
			t.Errorf("Rather %s: %v, %d, %v", what, below, x, err)
		}
	}
}

// 9.1: each small law against each, amount by amount.
func TestAllSmall(t *testing.T) {
	laws := slices.Concat(parted(1, 4), parted(2, 4), parted(4, 4))
	for _, a := range laws {
		for _, b := range laws {
			wantOrders(t, a, b)
		}
	}
}

// wantOrders fails unless both orders are what the library reckons.
func wantOrders(t *testing.T, a, b claims.Law) {
	t.Helper()
	what := frac.Words(a) + " | " + frac.Words(b)
	below, x, err := order.Always(a, b)
	if wanted, first := nowhere(a, b, above); below != wanted || x != first || err != nil {
		t.Errorf("Always %s: %v, %d, %v, not %v, %d", what, below, x, err, wanted, first)
	}
	rather, y, err := order.Rather(a, b)
	if wanted, first := nowhere(a, b, beyond); rather != wanted || y != first || err != nil {
		t.Errorf("Rather %s: %v, %d, %v, not %v, %d", what, rather, y, err, wanted, first)
	}
	if below && !rather {
		t.Errorf("Always, but not Rather: %s", what)
	}
}

// 9.1: laws that look drawn, of unlike lengths, and beside laws that differ from them in one place.
func TestDrawn(t *testing.T) {
	r := rand.New(rand.NewSource(91))
	for range 200 {
		a, b := drawnLaw(r, 1+r.Intn(12)), drawnLaw(r, 1+r.Intn(12))
		wantOrders(t, a, b)
		wantOrders(t, a, moved(r, a))
		wantOrders(t, moved(r, a), a)
	}
}

// moved is a law some chance of which is at another amount.
func moved(r *rand.Rand, l claims.Law) claims.Law {
	out := append(slices.Clone(l), make(claims.Law, r.Intn(3))...)
	from, to := r.Intn(len(l)), r.Intn(len(out))
	part, _ := frac.Of(1+r.Intn(4), 4)
	part = part.Mul(out[from])
	out[from] = out[from].Sub(part)
	out[to] = out[to].Add(part)
	return out
}

// 9.1: as many numbers as there may be, of many digits each.
func TestLong(t *testing.T) {
	r := rand.New(rand.NewSource(92))
	a := longLaw(t, r, 40)
	wantOrders(t, a, a)
	wantOrders(t, a, longLaw(t, r, 25))
	wantOrders(t, a, moved(r, a))
	least, most := sure(0, api.MaxSize), sure(api.MaxSize, 0)
	wantOrders(t, least, most)
	wantOrders(t, most, least)
	nearly := sure(api.MaxSize, 0)
	tiny := one(t, "1/"+strings.Repeat("9", api.MaxDigits))
	nearly[api.MaxSize], nearly[api.MaxSize-1] = frac.Whole(1).Sub(tiny), tiny
	for _, s := range []struct {
		a, b       claims.Law
		below      bool
		far, first int
	}{{nearly, most, true, 0, 0}, {most, nearly, false, api.MaxSize - 1, 0}} {
		below, x, err := order.Always(s.a, s.b)
		if below != s.below || x != s.far || err != nil {
			t.Errorf("Always: %v, %d, %v", below, x, err)
		}
		below, x, err = order.Rather(s.a, s.b)
		if below != s.below || x != s.first || err != nil {
			t.Errorf("Rather: %v, %d, %v", below, x, err)
		}
	}
}

// P4: nothing that is handed in is changed, nor what stands behind it, nor is it kept; rows have no room for each other.
func TestOwnMemory(t *testing.T) {
	backA, backB := law(t, "0 1/4 1/2 1/4 5 6"), law(t, "1/4 0 1/2 0 1/4 7 8")
	a, b := backA[:4], backB[:5]
	wholeA, wholeB := frac.Words(backA), frac.Words(backB)
	for _, c := range calls() {
		if _, err := c.call(a, a); err != nil {
			t.Errorf("%s: %v", c.what, err)
		}
		_, _ = c.call(a, b)
		if frac.Words(backA) != wholeA || frac.Words(backB) != wholeB {
			t.Fatalf("%s wrote into a law", c.what)
		}
	}
	for what, call := range map[string]func(a, b claims.Law) ([][]frac.Frac, error){"Beside": order.Beside, "Spread": order.Spread} {
		m, err := call(a, a)
		wantMatrix(t, what, m, err, "0 0 0 0; 0 1/4 0 0; 0 0 1/2 0; 0 0 0 1/4")
		wantOwnRows(t, what, m)
		for _, row := range m {
			for k := range row {
				row[k] = frac.Whole(9)
			}
		}
		if frac.Words(backA) != wholeA {
			t.Fatal(what + ": the matrix is a law's memory")
		}
		m, err = call(a, a)
		wantMatrix(t, fmt.Sprint(what, " again"), m, err, "0 0 0 0; 0 1/4 0 0; 0 0 1/2 0; 0 0 0 1/4")
	}
}
