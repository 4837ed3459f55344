package policy_test

import (
	"math/big"
	"math/rand"
	"slices"
	"sort"
	"strconv"
	"strings"
	"testing"

	"tontine/api"
	"tontine/policy"
)

const (
	leastInt    = -1 << 63
	greatestInt = 1<<63 - 1
)

// kinds are the words for them, in their order.
var kinds = strings.Fields("open change close pay claim put out back settle annul")

// event is one of a text: ID POLICY KIND DAY AMOUNT, perhaps with REF behind.
func event(t *testing.T, text string) policy.Event {
	t.Helper()
	w := strings.Fields(text)
	if len(w) != 5 && len(w) != 6 || !slices.Contains(kinds, w[2]) {
		t.Fatalf("no event: %q", text)
	}
	e := policy.Event{Id: w[0], Policy: w[1], Kind: 1 + slices.Index(kinds, w[2])}
	var err error
	if e.Day, err = strconv.Atoi(w[3]); err != nil {
		t.Fatal(err)
	}
	if e.Amount, err = strconv.Atoi(w[4]); err != nil {
		t.Fatal(err)
	}
	if len(w) == 6 {
		e.Ref = w[5]
	}
	return e
}

// book has the events of a text, with ; between; none of them may be amiss.
func book(t *testing.T, text string) *policy.Book {
	t.Helper()
	b := policy.New()
	tell(t, b, text)
	return b
}

// tell adds the events of a text.
func tell(t *testing.T, b *policy.Book, text string) {
	t.Helper()
	for _, line := range strings.Split(text, ";") {
		if strings.TrimSpace(line) == "" {
			continue
		}
		if err := b.Add(event(t, line)); err != nil {
			t.Fatalf("%q: %v", line, err)
		}
	}
}

// told is an answer of At as a text: on or off, premium, earned, paid, passed; then of each case its name, By, Paid, Back, and whether it is open.
func told(s policy.State) string {
	text := "off"
	if s.On {
		text = "on"
	}
	for _, n := range []string{strconv.Itoa(s.Premium), s.Earned.Text(), strconv.Itoa(s.Paid), strconv.Itoa(s.Passed)} {
		text += " " + n
	}
	for _, c := range s.Cases {
		text += ", " + c.Name + " " + strconv.Itoa(c.By) + " " + strconv.Itoa(c.Paid) + " " + strconv.Itoa(c.Back)
		if c.Open {
			text += " open"
		}
	}
	return text
}

// wantAt fails unless At tells this.
func wantAt(t *testing.T, b *policy.Book, name string, day, known int, want string) {
	t.Helper()
	s, err := b.At(name, day, known)
	if err != nil || told(s) != want {
		t.Errorf("%s at %d, %d known: %s, %v, not %s", name, day, known, told(s), err, want)
	}
}

// wantNow fails unless At tells this, by all that was told, of the policy p.
func wantNow(t *testing.T, b *policy.Book, day int, want string) {
	t.Helper()
	wantAt(t, b, "p", day, b.Known(), want)
}

// wantAtError fails unless At tells just this error, and nothing beside it.
func wantAtError(t *testing.T, b *policy.Book, name string, day, known int, e api.Errno) {
	t.Helper()
	s, err := b.At(name, day, known)
	if err != error(e) || told(s) != "off 0 0 0 0" || s.Cases != nil {
		t.Errorf("%q at %d, %d known: %s, %v, not %v alone", name, day, known, told(s), err, e)
	}
}

// model is a book by the document's words, without any thrift.
type model struct{ events []policy.Event }

// add is what Add says.
func (m *model) add(e policy.Event) api.Errno {
	for _, f := range m.events {
		if f == e {
			return api.OK
		}
	}
	for _, f := range m.events {
		if f.Id == e.Id {
			return api.ErrExists
		}
	}
	if e.Kind == policy.Annul {
		fine := false
		for _, f := range m.events {
			fine = fine || f.Id == e.Ref && f.Policy == e.Policy && f.Kind != policy.Annul
		}
		if !fine {
			return api.ErrMissing
		}
	}
	if len(m.events) == 2000 {
		return api.ErrLimit
	}
	m.events = append(m.events, e)
	return api.OK
}

// counting are the events that count, of each day from 0 on.
func (m *model) counting(name string, day, known int) [][]policy.Event {
	days := make([][]policy.Event, day+1)
	for _, e := range m.events[:known] {
		counts := e.Policy == name && e.Day <= day && e.Kind != policy.Annul
		for _, a := range m.events[:known] {
			if a.Kind == policy.Annul && a.Policy == name && a.Day <= day && a.Ref == e.Id {
				counts = false
			}
		}
		if counts {
			days[e.Day] = append(days[e.Day], e)
		}
	}
	return days
}

// told is what At tells, as a text, gone through day by day; empty, if nothing counts.
func (m *model) told(name string, day, known int) string {
	on, ever, premium, paid, passed, some := "off", false, 0, 0, 0, false
	cases := map[string]*policy.Case{}
	earned := new(big.Rat)
	for _, events := range m.counting(name, day, known) {
		for _, e := range events {
			some = true
			c := cases[e.Ref]
			switch {
			case e.Kind == policy.Open && !ever:
				on, ever, premium = "on", true, e.Amount
			case e.Kind == policy.Change && on == "on":
				premium = e.Amount
			case e.Kind == policy.Close && on == "on":
				on, premium = "off", 0
			case e.Kind == policy.Pay:
				paid += e.Amount
			case e.Kind == policy.Claim && on == "on" && c == nil:
				cases[e.Ref] = &policy.Case{By: e.Amount, Open: true}
			case e.Kind == policy.Put && c != nil && c.Open:
				c.By = e.Amount
			case e.Kind == policy.Out && c != nil && c.Open && e.Amount <= c.By:
				c.By, c.Paid = c.By-e.Amount, c.Paid+e.Amount
			case e.Kind == policy.Back && c != nil && e.Amount <= c.Paid-c.Back:
				c.Back += e.Amount
			case e.Kind == policy.Settle && c != nil && c.Open:
				c.By, c.Open = 0, false
			default:
				passed++
			}
		}
		earned.Add(earned, big.NewRat(int64(premium), 365))
	}
	if !some {
		return ""
	}
	text := on + " " + strconv.Itoa(premium) + " " + earned.RatString() + " " + strconv.Itoa(paid) + " " + strconv.Itoa(passed)
	var names []string
	for n := range cases {
		names = append(names, n)
	}
	sort.Strings(names)
	for _, n := range names {
		c := cases[n]
		text += ", " + n + " " + strconv.Itoa(c.By) + " " + strconv.Itoa(c.Paid) + " " + strconv.Itoa(c.Back)
		if c.Open {
			text += " open"
		}
	}
	return text
}

// drawn is an event that may be; ids, policies, days and cases are few, so that events meet each other.
func drawn(r *rand.Rand, ids, days int) policy.Event {
	e := policy.Event{Id: "e" + strconv.Itoa(r.Intn(ids)), Policy: []string{"p", "p", "p", "q"}[r.Intn(4)], Kind: 1 + r.Intn(10), Day: r.Intn(days), Amount: r.Intn(1 + r.Intn(400))}
	if r.Intn(6) == 0 {
		e.Kind = policy.Open
	}
	switch {
	case e.Kind == policy.Annul:
		e.Ref = "e" + strconv.Itoa(r.Intn(ids))
	case e.Kind >= policy.Claim:
		e.Ref = []string{"-", "9", "a", "a-", "aa", "b"}[r.Intn(6)]
	}
	if e.Kind == policy.Close || e.Kind == policy.Settle || e.Kind == policy.Annul {
		e.Amount = 0
	}
	return e
}
