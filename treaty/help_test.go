package treaty_test

import (
	"errors"
	"math/rand"
	"reflect"
	"slices"
	"strconv"
	"strings"
	"testing"

	"tontine/api"
	"tontine/frac"
	"tontine/treaty"
)

const (
	leastInt    = -1 << 63
	greatestInt = 1<<63 - 1
	mostMoney   = 1_000_000_000_000
	mostTimes   = 100
)

// wantError fails unless there is just this error, without a place, and the other results are their zero values.
func wantError(t *testing.T, what string, err error, e api.Errno, others ...any) {
	t.Helper()
	if err != error(e) {
		t.Errorf("%s: %v, not %v", what, err, e)
	}
	wantZero(t, what, others...)
}

// wantAt fails unless there is just this error at a place, and the other results are their zero values.
func wantAt(t *testing.T, what string, err error, e api.Errno, place int, others ...any) {
	t.Helper()
	var at *api.At
	if !errors.As(err, &at) {
		t.Errorf("%s: %v, without a place", what, err)
	} else if at.Err != e || at.Place != place {
		t.Errorf("%s: %v at %d, not %v at %d", what, at.Err, at.Place, e, place)
	}
	wantZero(t, what, others...)
}

// wantZero fails unless all are their zero values.
func wantZero(t *testing.T, what string, others ...any) {
	t.Helper()
	for _, other := range others {
		if !reflect.ValueOf(other).IsZero() {
			t.Errorf("%s: %v beside an error", what, other)
		}
	}
}

// one is the fraction of a text.
func one(t *testing.T, text string) frac.Frac {
	t.Helper()
	f, err := frac.Parse(text)
	if err != nil {
		t.Fatalf("Parse(%q): %v", text, err)
	}
	return f
}

// cede is a line of its kind; so are the next ones.
func cede(t *testing.T, share, to string) treaty.Line {
	t.Helper()
	return treaty.Line{Kind: treaty.Cede, Share: one(t, share), To: to}
}

func surplus(limit, times int, to string) treaty.Line {
	return treaty.Line{Kind: treaty.Surplus, Limit: limit, Times: times, To: to}
}

func excess(from, limit, times, price int, to string) treaty.Line {
	return treaty.Line{Kind: treaty.Excess, From: from, Limit: limit, Times: times, Price: price, To: to}
}

func stop(from, limit int, to string) treaty.Line {
	return treaty.Line{Kind: treaty.Stop, From: from, Limit: limit, To: to}
}

// written tells a treaty, whatever it has, with fractions by their texts.
func written(l []treaty.Line) string {
	text := ""
	for _, x := range l {
		text += strconv.Itoa(x.Kind) + " " + x.Share.Text()
		for _, n := range []int{x.From, x.Limit, x.Times, x.Price} {
			text += " " + strconv.Itoa(n)
		}
		text += " " + strconv.Quote(x.To) + "\n"
	}
	return text
}

// drawnTreaty has some lines that may be, stops last; what is great may be very great.
func drawnTreaty(r *rand.Rand, great int) []treaty.Line {
	var l []treaty.Line
	for range r.Intn(6) {
		x := treaty.Line{Kind: treaty.Cede + r.Intn(3), To: "b-" + strconv.Itoa(r.Intn(9))}
		switch x.Kind {
		case treaty.Cede:
			under := 1 + r.Intn(great)
			x.Share, _ = frac.Of(r.Intn(under+1), under)
		case treaty.Surplus:
			x.Limit, x.Times = 1+r.Intn(great), r.Intn(4)
		case treaty.Excess:
			x.From, x.Limit, x.Times = r.Intn(great), 1+r.Intn(great), r.Intn(4)
			if x.Times > 0 {
				x.Price = r.Intn(great)
			}
		}
		l = append(l, x)
	}
	for range r.Intn(3) {
		l = append(l, stop(r.Intn(3*great), r.Intn(2*great), "s"))
	}
	return l
}

// drawnClaims are some.
func drawnClaims(r *rand.Rand, great int) []treaty.Claim {
	var l []treaty.Claim
	for range r.Intn(12) {
		sum := 1 + r.Intn(great)
		l = append(l, treaty.Claim{Sum: sum, Amount: r.Intn(sum + 1)})
	}
	return l
}

// amissTreaty is one that may not be.
type amissTreaty struct {
	what string
	l    []treaty.Line
	e    api.Errno
}

// with is a line, changed.
func with(x treaty.Line, change func(x *treaty.Line)) treaty.Line {
	change(&x)
	return x
}

// amissTreaties are such, each with what is said of it.
func amissTreaties(t *testing.T) []amissTreaty {
	t.Helper()
	half, third := one(t, "1/2"), one(t, "1/3")
	lines := []treaty.Line{cede(t, "1/2", "a"), surplus(10, 2, "a"), excess(5, 10, 2, 3, "a"), stop(5, 10, "a")}
	var l []amissTreaty
	put := func(what string, e api.Errno, x ...treaty.Line) {
		l = append(l, amissTreaty{what, x, e})
	}
	put("a line too many", api.ErrLimit, slices.Repeat(lines[:1], api.MaxRows+1)...)
	put("far too many lines", api.ErrLimit, make([]treaty.Line, 50000)...)
	put("a line without a kind", api.ErrArg, treaty.Line{To: "a"})
	put("an empty line", api.ErrArg, treaty.Line{})
	for _, kind := range []int{0, -1, 5, leastInt, greatestInt} {
		put("kind "+strconv.Itoa(kind), api.ErrArg, treaty.Line{Kind: kind, To: "", From: -1})
	}
	for _, x := range lines {
		kind := "kind " + strconv.Itoa(x.Kind)
		for _, name := range []string{"", "A", "a b", "a_", "ä", "a\n", strings.Repeat("a", 21)} {
			put(kind+", a name "+name, api.ErrName, with(x, func(x *treaty.Line) { x.To, x.From = name, -1 }))
		}
		for _, n := range []int{-1, mostMoney + 1, leastInt, greatestInt} {
			put(kind+", From", api.ErrRange, with(x, func(x *treaty.Line) { x.From = n }))
			put(kind+", Limit", api.ErrRange, with(x, func(x *treaty.Line) { x.Limit = n }))
			put(kind+", Price", api.ErrRange, with(x, func(x *treaty.Line) { x.Price = n }))
			put(kind+", Price, and a share", api.ErrRange, with(x, func(x *treaty.Line) { x.Price, x.Share = n, frac.Whole(2) }))
		}
		for _, n := range []int{-1, mostTimes + 1, leastInt, greatestInt} {
			put(kind+", Times", api.ErrRange, with(x, func(x *treaty.Line) { x.Times = n }))
		}
		if x.Kind != treaty.Cede {
			put(kind+" with a share", api.ErrArg, with(x, func(x *treaty.Line) { x.Share = third }))
			put(kind+" with a share below 0", api.ErrArg, with(x, func(x *treaty.Line) { x.Share = half.Neg() }))
		}
		if x.Kind == treaty.Cede || x.Kind == treaty.Surplus {
			put(kind+" with From", api.ErrArg, with(x, func(x *treaty.Line) { x.From = 1 }))
		}
		if x.Kind == treaty.Cede || x.Kind == treaty.Stop {
			put(kind+" with Times", api.ErrArg, with(x, func(x *treaty.Line) { x.Times = 1 }))
		}
		if x.Kind != treaty.Excess {
			put(kind+" with Price", api.ErrArg, with(x, func(x *treaty.Line) { x.Price = 1 }))
		}
	}
	put("a limit of a cede", api.ErrArg, with(lines[0], func(x *treaty.Line) { x.Limit = 1 }))
	put("a share below 0", api.ErrArg, cede(t, "-1/1000000", "a"))
	put("a share a little below 0", api.ErrArg, cede(t, "-1/"+strings.Repeat("9", api.MaxDigits), "a"))
	put("a share above 1", api.ErrArg, cede(t, "1000001/1000000", "a"))
	put("a share a little above 1", api.ErrArg, cede(t, "1"+strings.Repeat("0", 59)+"/"+strings.Repeat("9", 59), "a"))
	put("a surplus without a limit", api.ErrArg, surplus(0, 1, "a"))
	put("an excess without a limit", api.ErrArg, excess(1, 0, 1, 1, "a"))
	for _, x := range lines[:3] {
		kind := "kind " + strconv.Itoa(x.Kind)
		put(kind+" behind a stop", api.ErrOrder, lines[3], x)
		put(kind+" behind stops", api.ErrOrder, lines[0], lines[3], lines[3], x)
		put(kind+" between stops", api.ErrOrder, lines[3], x, lines[3])
		put(kind+" behind a stop, with another error", api.ErrRange, lines[3], with(x, func(x *treaty.Line) { x.Limit = -1 }))
		put(kind+" behind a stop, ahead of an error", api.ErrOrder, lines[3], x, with(x, func(x *treaty.Line) { x.Limit = -1 }))
		put(kind+" behind a stop that is amiss", api.ErrName, stop(1, 1, "S"), x)
	}
	put("no name ahead of no kind", api.ErrName, cede(t, "1", ""), treaty.Line{Kind: 9, To: "a"})
	put("no kind ahead of no name", api.ErrArg, treaty.Line{Kind: 9, To: "a"}, cede(t, "1", ""))
	put("no share ahead of no name", api.ErrArg, cede(t, "2", "a"), cede(t, "1", ""))
	put("at the end", api.ErrRange, append(slices.Repeat(lines[:1], api.MaxRows-1), stop(-1, 1, "a"))...)
	return l
}

// goodTreaties are some that may be, at the edges.
func goodTreaties(t *testing.T) [][]treaty.Line {
	t.Helper()
	name := strings.Repeat("z", 20)
	most := excess(mostMoney, mostMoney, mostTimes, mostMoney, "a")
	return [][]treaty.Line{
		nil,
		{cede(t, "0", "a")},
		{cede(t, "1", "0")},
		{cede(t, "8"+strings.Repeat("9", 59)+"/"+strings.Repeat("9", api.MaxDigits), name)},
		{surplus(1, 0, "-")},
		{surplus(mostMoney, mostTimes, "a")},
		{excess(0, 1, 0, 0, "a")},
		{excess(0, 1, 1, 0, "a")},
		{most},
		{stop(0, 0, "a")},
		{stop(mostMoney, mostMoney, "a")},
		{stop(0, 1, "a"), stop(1, 0, "a"), stop(0, 0, "b")},
		slices.Repeat([]treaty.Line{most}, api.MaxRows),
		append(slices.Repeat([]treaty.Line{most}, api.MaxRows-2), stop(0, 1, "a"), stop(0, 1, "a")),
	}
}
