package joint_test

import (
	"math/big"
	"math/rand"
	"reflect"
	"slices"
	"strings"
	"testing"

	"tontine/api"
	"tontine/frac"
	"tontine/joint"
	"tontine/table"
)

const (
	leastInt    = -1 << 63
	greatestInt = 1<<63 - 1
)

// wantError fails unless there is just this error, without a place, and the other result is its zero value.
func wantError(t *testing.T, what string, err error, e api.Errno, other any) {
	t.Helper()
	if err != error(e) {
		t.Errorf("%s: %v, not %v", what, err, e)
	}
	if !reflect.ValueOf(other).IsZero() {
		t.Errorf("%s: %v beside an error", what, other)
	}
}

// want fails unless a fraction is written so, without an error.
func want(t *testing.T, what string, f frac.Frac, err error, text string) {
	t.Helper()
	if err != nil {
		t.Errorf("%s: %v", what, err)
	}
	if f.Text() != text {
		t.Errorf("%s: %s, not %s", what, f.Text(), text)
	}
}

// wantRow fails unless fractions are written so, without an error.
func wantRow(t *testing.T, what string, l []frac.Frac, err error, text string) {
	t.Helper()
	if err != nil {
		t.Errorf("%s: %v", what, err)
	}
	if frac.Words(l) != text {
		t.Errorf("%s: %s, not %s", what, frac.Words(l), text)
	}
}

// wantRat fails unless a fraction is what the library reckons, without an error.
func wantRat(t *testing.T, what string, f frac.Frac, err error, r *big.Rat) {
	t.Helper()
	want(t, what, f, err, r.RatString())
}

// wantRats fails unless fractions are what the library reckons, without an error.
func wantRats(t *testing.T, what string, l []frac.Frac, err error, rats []*big.Rat) {
	t.Helper()
	var texts []string
	for _, r := range rats {
		texts = append(texts, r.RatString())
	}
	wantRow(t, what, l, err, strings.Join(texts, " "))
}

// one is the fraction of a text.
func one(t *testing.T, text string) frac.Frac {
	t.Helper()
	f, err := frac.Parse(text)
	if err != nil {
		t.Fatalf("Parse(%q): %v", text, err)
	}
	return f
}

// rat is a fraction as the library has it.
func rat(t *testing.T, text string) *big.Rat {
	t.Helper()
	r, ok := new(big.Rat).SetString(text)
	if !ok {
		t.Fatalf("%q is no fraction", text)
	}
	return r
}

// read is a table of a text.
func read(t *testing.T, text string) *table.Table {
	t.Helper()
	l, err := table.Read(text)
	if err != nil {
		t.Fatalf("Read(%q): %v", text, err)
	}
	return l
}

// seen is the table of the document's examples.
func seen(t *testing.T) *table.Table {
	t.Helper()
	return read(t, "table t from 60 lives 1000 900 700 400 100")
}

// person is somebody as the tests know them: how likely they die within the years of their age on, as texts, the last of them 1.
type person struct {
	rates string
	late  int // ages behind the first one of their table
}

// people are persons of a text: rates, with ; between, each perhaps with a + ahead for each age by which they are older.
func people(text string) []person {
	var l []person
	for _, s := range strings.Split(text, ";") {
		rates := strings.TrimLeft(s, "+")
		l = append(l, person{rates, len(s) - len(rates)})
	}
	return l
}

// lives are people's; their tables begin at ages of their own.
func lives(t *testing.T, l []person) []joint.Life {
	t.Helper()
	var out []joint.Life
	for i, p := range l {
		q := read(t, "table t from "+[]string{"60", "0", "17"}[i%3]+" rates "+p.rates)
		from, _ := q.Ages()
		out = append(out, joint.Life{Table: q, Age: from + p.late})
	}
	return out
}

// drawnPeople are so many, who live so many years at most.
func drawnPeople(r *rand.Rand, n, years int) []person {
	var l []person
	for range n {
		var rates []string
		for range r.Intn(years) {
			under := 2 + r.Intn(30)
			f, _ := frac.Of(r.Intn(under), under)
			rates = append(rates, f.Text())
		}
		rates = append(rates, "1")
		l = append(l, person{strings.Join(rates, " "), max(0, r.Intn(len(rates)+3)-2)})
	}
	return l
}

// deaths are how likely a person dies behind each number of whole years.
func (p person) deaths(t *testing.T) []*big.Rat {
	t.Helper()
	rates := strings.Fields(p.rates)
	rates = rates[min(p.late, len(rates)-1):] // behind the last age it is as at that age
	living := big.NewRat(1, 1)
	var out []*big.Rat
	for _, q := range rates {
		dies := new(big.Rat).Mul(living, rat(t, q))
		living.Sub(living, dies)
		out = append(out, dies)
	}
	return out
}

// way is one in which people may die: how many whole years each lives.
type way struct {
	years  []int
	chance *big.Rat
}

// ways are all of people.
func ways(t *testing.T, l []person) []way {
	t.Helper()
	out := []way{{nil, big.NewRat(1, 1)}}
	for _, p := range l {
		var next []way
		for _, w := range out {
			for years, chance := range p.deaths(t) {
				next = append(next, way{append(slices.Clone(w.years), years), new(big.Rat).Mul(w.chance, chance)})
			}
		}
		out = next
	}
	return out
}

// alive is how many live at a time.
func (w way) alive(time int) int {
	n := 0
	for _, y := range w.years {
		if y >= time {
			n++
		}
	}
	return n
}

// mean is that of an amount of each way.
func mean(l []way, of func(way) *big.Rat) *big.Rat {
	all := new(big.Rat)
	for _, w := range l {
		all.Add(all, new(big.Rat).Mul(w.chance, of(w)))
	}
	return all
}

// chance is how likely something holds.
func chance(l []way, holds func(way) bool) *big.Rat {
	return mean(l, func(w way) *big.Rat {
		if holds(w) {
			return big.NewRat(1, 1)
		}
		return new(big.Rat)
	})
}

// orders are all rows in which numbers below n may stand.
func orders(n int) [][]int {
	if n == 0 {
		return [][]int{nil}
	}
	var out [][]int
	for _, o := range orders(n - 1) {
		for at := range n {
			out = append(out, slices.Insert(slices.Clone(o), at, n-1))
		}
	}
	return out
}

// places are, of each, the part of the orders in which years come one behind the other that has them at a place.
func (w way) places(place int) []*big.Rat {
	all := int64(0)
	counts := make([]int64, len(w.years))
	for _, o := range orders(len(w.years)) {
		if slices.IsSortedFunc(o, func(i, k int) int { return w.years[i] - w.years[k] }) {
			all++
			counts[o[place-1]]++
		}
	}
	var out []*big.Rat
	for _, n := range counts {
		out = append(out, big.NewRat(n, all))
	}
	return out
}
