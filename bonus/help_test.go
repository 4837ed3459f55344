package bonus_test

import (
	"math/big"
	"math/rand"
	"reflect"
	"slices"
	"strconv"
	"strings"
	"testing"

	"tontine/api"
	"tontine/bonus"
	"tontine/claims"
	"tontine/frac"
)

const (
	leastInt    = -1 << 63
	greatestInt = 1<<63 - 1
)

// wantError fails unless there is just this error, without a place, and the other results are their zero values.
func wantError(t *testing.T, what string, err error, e api.Errno, others ...any) {
	t.Helper()
	if err != error(e) {
		t.Errorf("%s: %v, not %v", what, err, e)
	}
	for _, other := range others {
		if !reflect.ValueOf(other).IsZero() {
			t.Errorf("%s: %v beside an error", what, other)
		}
	}
}

// want fails unless a fraction is written so, without an error.
func want(t *testing.T, what string, f frac.Frac, err error, text string) {
	t.Helper()
	wantRow(t, what, []frac.Frac{f}, err, text)
}

// wantRow fails unless fractions are written so, without an error.
func wantRow(t *testing.T, what string, l []frac.Frac, err error, text string) {
	t.Helper()
	if err != nil {
		t.Errorf("%s: %v", what, err)
	}
	if frac.Words(l) != text {
		t.Errorf("%s: %s, not %s", what, frac.Words(l), text)
	}
}

// fracs are those of a text, with blanks between.
func fracs(t *testing.T, text string) []frac.Frac {
	t.Helper()
	var l []frac.Frac
	for _, w := range strings.Fields(text) {
		f, err := frac.Parse(w)
		if err != nil {
			t.Fatalf("Parse(%q): %v", w, err)
		}
		l = append(l, f)
	}
	return l
}

// scale is one of texts: the levels behind each level, with ; between, and the factors.
func scale(t *testing.T, after, factors string) bonus.Scale {
	t.Helper()
	s := bonus.Scale{Factor: fracs(t, factors)}
	for _, text := range strings.Split(after, ";") {
		var row []int
		for _, w := range strings.Fields(text) {
			n, err := strconv.Atoi(w)
			if err != nil {
				t.Fatal(err)
			}
			row = append(row, n)
		}
		s.After = append(s.After, row)
	}
	return s
}

// stairs is a scale of three levels: one up without claims, one down with one, to the lowest with more. (One pays less the higher one is.)
func stairs(t *testing.T) bonus.Scale {
	t.Helper()
	return scale(t, "1 0;2 0;2 1 0", "100 70 1/2")
}

// still is a scale of so many levels, each with so many numbers, on which one stays.
func still(levels, numbers int) bonus.Scale {
	s := bonus.Scale{Factor: make([]frac.Frac, levels)}
	for level := range levels {
		s.After = append(s.After, slices.Repeat([]int{level}, numbers))
	}
	return s
}

// copyOf shares nothing with a scale.
func copyOf(s bonus.Scale) bonus.Scale {
	out := bonus.Scale{Factor: slices.Clone(s.Factor)}
	for _, row := range s.After {
		out.After = append(out.After, slices.Clone(row))
	}
	return out
}

// drawnScale has so many levels.
func drawnScale(r *rand.Rand, levels int) bonus.Scale {
	var s bonus.Scale
	for range levels {
		var row []int
		for range 1 + r.Intn(10) {
			row = append(row, r.Intn(levels))
		}
		f, _ := frac.Of(r.Intn(50), 1+r.Intn(9))
		s.After, s.Factor = append(s.After, row), append(s.Factor, f)
	}
	return s
}

// drawnLaw is a law of so many numbers, some of them noughts.
func drawnLaw(r *rand.Rand, numbers int) claims.Law {
	weights := make([]int, numbers)
	all := 0
	for i := range weights {
		weights[i] = max(0, r.Intn(30)-8)
		all += weights[i]
	}
	weights[r.Intn(numbers)]++
	l := make(claims.Law, numbers)
	for i, w := range weights {
		l[i], _ = frac.Of(w, all+1)
	}
	return l
}

// sure is the law of one number of claims, with so many noughts behind it.
func sure(number, noughts int) claims.Law {
	l := make(claims.Law, number+1+noughts)
	l[number] = frac.Whole(1)
	return l
}

// rat is a fraction as the library has it.
func rat(f frac.Frac) *big.Rat {
	r, _ := new(big.Rat).SetString(f.Text())
	return r
}

// amissScale is a scale that may not be.
type amissScale struct {
	what string
	s    bonus.Scale
	e    api.Errno
}

// amissScales are such, each with what is said of it.
func amissScales(t *testing.T) []amissScale {
	t.Helper()
	long := still(2, 10)
	long.After[1] = append(long.After[1], 0)
	return []amissScale{
		{"nothing", bonus.Scale{}, api.ErrLimit},
		{"no levels, but factors", bonus.Scale{Factor: fracs(t, "1 2")}, api.ErrLimit},
		{"a level too many", still(api.MaxStates+1, 1), api.ErrLimit},
		{"far too many levels", still(50000, 1), api.ErrLimit},
		{"too many levels, without factors", bonus.Scale{After: still(api.MaxStates+1, 1).After}, api.ErrLimit},
		{"no factors", scale(t, "0;1", ""), api.ErrForm},
		{"a factor missing", scale(t, "0;1", "1"), api.ErrForm},
		{"a factor too many", scale(t, "0;1", "1 1 1"), api.ErrForm},
		{"a factor too many, and all else amiss", scale(t, "7;", "-1 1 1"), api.ErrForm},
		{"no number", scale(t, "", "1"), api.ErrLimit},
		{"no number of the last level", scale(t, "0 1;0 1;", "1 1 1"), api.ErrLimit},
		{"a number too many", still(1, 11), api.ErrLimit},
		{"a number too many of the second level", long, api.ErrLimit},
		{"a number too many, none of which is a level", scale(t, "9 9 9 9 9 9 9 9 9 9 9", "-1"), api.ErrLimit},
		{"a level below 0", scale(t, "0 -1;0", "1 1"), api.ErrRange},
		{"a level too high", scale(t, "0 1;2 0", "1 1"), api.ErrRange},
		{"a level too high, at the end", scale(t, "0 1;0 0 0 0 0 0 0 0 0 2", "1 1"), api.ErrRange},
		{"the lowest number", bonus.Scale{After: [][]int{{leastInt}}, Factor: fracs(t, "1")}, api.ErrRange},
		{"the highest number", bonus.Scale{After: [][]int{{greatestInt}}, Factor: fracs(t, "1")}, api.ErrRange},
		{"no level, and a factor below 0", scale(t, "1", "-1"), api.ErrRange},
		{"a factor below 0", scale(t, "0;1", "1 -1"), api.ErrArg},
		{"a factor a little below 0", scale(t, "0", "-1/"+strings.Repeat("9", api.MaxDigits)), api.ErrArg},
		{"a factor below 0, then no number", scale(t, "0;", "-1 1"), api.ErrArg},
		{"a factor below 0, then no level", scale(t, "0;5", "-1 1"), api.ErrArg},
		{"no level, then no number", scale(t, "5;", "1 1"), api.ErrRange},
		{"no number, then a factor below 0", scale(t, ";0", "1 -1"), api.ErrLimit},
	}
}
