package policy_test

import (
	"math/rand"
	"slices"
	"strconv"
	"strings"
	"testing"

	"tontine/api"
	"tontine/frac"
	"tontine/policy"
)

// of is a fraction.
func of(t *testing.T, over, under int) frac.Frac {
	t.Helper()
	f, err := frac.Of(over, under)
	if err != nil {
		t.Fatal(err)
	}
	return f
}

// answer is what At answers, as a text; empty, if nothing counts.
func answer(t *testing.T, b *policy.Book, name string, day, known int) string {
	t.Helper()
	s, err := b.At(name, day, known)
	if err == error(api.ErrMissing) {
		return ""
	}
	if err != nil {
		t.Fatalf("%s at %d, %d known: %v", name, day, known, err)
	}
	return told(s)
}

// 17.1, 17.2: drawn events, against the document's words.
func TestDrawn(t *testing.T) {
	r := rand.New(rand.NewSource(17))
	for range 3000 {
		b, m := policy.New(), &model{}
		ids, days := 1+r.Intn(40), 1+r.Intn(30)
		for range r.Intn(60) {
			e := drawn(r, ids, days)
			if got, want := api.Tell(b.Add(e)), m.add(e); got != want {
				t.Fatalf("%v behind %v: %v, not %v", e, m.events, got, want)
			}
		}
		if b.Known() != len(m.events) {
			t.Fatalf("%d known, not %d", b.Known(), len(m.events))
		}
		for range 10 {
			name, day, known := []string{"p", "q"}[r.Intn(2)], r.Intn(days+3), r.Intn(b.Known()+1)
			if got, want := answer(t, b, name, day, known), m.told(name, day, known); got != want {
				t.Fatalf("%s at %d by %v: %q, not %q", name, day, m.events[:known], got, want)
			}
		}
	}
}

// 17.2: an Annul counts by its own day and by when it was told; it may lie ahead of what it names.
func TestAnnulCounts(t *testing.T) {
	b := book(t, "o p open 2 365; c p change 10 730; a p annul 5 0 c; d p pay 3 1; e p annul 12 0 d; f p annul 3 0 d; q q pay 4 1")
	wantAt(t, b, "p", 10, 2, "on 730 10 0 0")
	wantAt(t, b, "p", 10, 3, "on 365 9 0 0")
	wantAt(t, b, "p", 9, 3, "on 365 8 0 0")
	wantAt(t, b, "p", 11, 5, "on 365 10 1 0")
	wantAt(t, b, "p", 12, 5, "on 365 11 0 0")
	wantAt(t, b, "p", 11, 6, "on 365 10 0 0")
	wantAt(t, b, "p", 2, 6, "on 365 1 0 0")
	wantAt(t, b, "q", 100_000, 7, "off 0 0 1 0")
}

// 17.3: what is annulled is as if it had never been: what did not fit for it fits, and the other way round.
func TestAnnulChanges(t *testing.T) {
	b := book(t, "o p open 1 365; n p open 2 730; x p close 3 0; c p claim 4 9 c; d p out 5 9 c")
	wantAt(t, b, "p", 5, 5, "off 0 2 0 3")
	tell(t, b, "a p annul 4 0 x")
	wantAt(t, b, "p", 3, 6, "off 0 2 0 1")
	wantAt(t, b, "p", 5, 6, "on 365 5 0 1, c 0 9 0 open")
	tell(t, b, "e p annul 4 0 o")
	wantAt(t, b, "p", 3, 7, "off 0 2 0 1")
	wantAt(t, b, "p", 5, 7, "on 730 8 0 0, c 0 9 0 open")
	tell(t, b, "f p annul 5 0 n")
	wantAt(t, b, "p", 4, 8, "on 730 6 0 0, c 9 0 0 open")
	wantAt(t, b, "p", 5, 8, "off 0 0 0 2")
	tell(t, b, "g p annul 0 0 c; h p annul 0 0 d")
	wantAtError(t, b, "p", 5, 10, api.ErrMissing)
	wantAt(t, b, "p", 4, 10, "on 730 6 0 0")
}

// 17.3: a book with events that are annulled tells, from the days of all Annuls on, what one without them does.
func TestAnnulledNeverWas(t *testing.T) {
	r := rand.New(rand.NewSource(173))
	for range 1000 {
		var events, kept []policy.Event
		b, without := policy.New(), policy.New()
		for i := range r.Intn(40) {
			e := drawn(r, 40, 20)
			e.Id = "e" + strconv.Itoa(i)
			if e.Kind == policy.Annul {
				continue
			}
			events = append(events, e)
			if r.Intn(3) > 0 {
				kept = append(kept, e)
			}
		}
		addAll(t, b, events)
		addAll(t, without, kept)
		for _, e := range events {
			if !slices.Contains(kept, e) {
				addAll(t, b, []policy.Event{{Id: "a" + e.Id, Policy: e.Policy, Kind: policy.Annul, Day: r.Intn(20), Ref: e.Id}})
			}
		}
		for day := 20; day < 25; day++ {
			if got, want := answer(t, b, "p", day, b.Known()), answer(t, without, "p", day, without.Known()); got != want {
				t.Fatalf("day %d, %v of %v: %q, not %q", day, kept, events, got, want)
			}
		}
	}
}

// addAll tells events, none of which may be amiss.
func addAll(t *testing.T, b *policy.Book, events []policy.Event) {
	t.Helper()
	for _, e := range events {
		if err := b.Add(e); err != nil {
			t.Fatalf("%v: %v", e, err)
		}
	}
}

// 17.3: what was known then is so still, whatever is told later, twice, or amiss.
func TestKnownThen(t *testing.T) {
	r := rand.New(rand.NewSource(1730))
	for range 200 {
		b := policy.New()
		then := []string{allDays(t, b, 0)} // by how many were known
		for range 40 {
			e := drawn(r, 25, 10)
			known := b.Known()
			err := b.Add(e)
			switch {
			case b.Known() == known+1 && err == nil:
				then = append(then, allDays(t, b, b.Known()))
			case b.Known() != known:
				t.Fatalf("%v: %v, %d known behind %d", e, err, b.Known(), known)
			}
		}
		for known, text := range then {
			if got := allDays(t, b, known); got != text {
				t.Fatalf("%d known: %q, not %q", known, got, text)
			}
		}
	}
}

// allDays is what is told of each of some days.
func allDays(t *testing.T, b *policy.Book, known int) string {
	t.Helper()
	var l []string
	for day := range 11 {
		l = append(l, answer(t, b, "p", day, known), answer(t, b, "q", day, known))
	}
	return strings.Join(l, "\n")
}

// P4, 17.1: an event is a value: what the caller does with theirs later changes nothing.
func TestAddKeepsNothing(t *testing.T) {
	b := policy.New()
	e := event(t, "i p open 0 365")
	addAll(t, b, []policy.Event{e})
	e.Id, e.Amount = "j", 730
	wantNow(t, b, 0, "on 365 1 0 0")
	addAll(t, b, []policy.Event{e})
	wantNow(t, b, 0, "on 365 1 0 1")
}
