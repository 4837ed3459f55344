package policy_test

import (
	"strconv"
	"strings"
	"testing"

	"tontine/api"
	"tontine/policy"
)

// 17.1: the kinds count from 1 on, in the document's order.
func TestKinds(t *testing.T) {
	for i, k := range []int{policy.Open, policy.Change, policy.Close, policy.Pay, policy.Claim, policy.Put, policy.Out, policy.Back, policy.Settle, policy.Annul} {
		if k != i+1 {
			t.Errorf("%s is %d", kinds[i], k)
		}
	}
}

// amissEvents are events that may not be, whatever was told, each with what it is told by.
func amissEvents() []amissEvent {
	long := strings.Repeat("n", 21)
	good := policy.Event{Id: "i", Policy: "p", Kind: policy.Pay}
	var l []amissEvent
	add := func(what string, err api.Errno, change func(e *policy.Event)) {
		e := good
		change(&e)
		l = append(l, amissEvent{what, e, err})
	}
	for _, name := range []string{"", "A", "a b", "a_b", "é", "\xff", "a\n", long} {
		add("an Id "+strconv.Quote(name), api.ErrName, func(e *policy.Event) { e.Id = name })
		add("a Policy "+strconv.Quote(name), api.ErrName, func(e *policy.Event) { e.Policy = name })
		add("a name ahead of all else", api.ErrName, func(e *policy.Event) {
			e.Policy, e.Kind, e.Day, e.Amount, e.Ref = name, 0, -1, -1, "A"
		})
		for kind := policy.Open; kind <= policy.Annul; kind++ {
			if kind >= policy.Claim || name != "" {
				add(kinds[kind-1]+" with a Ref "+strconv.Quote(name), api.ErrArg, func(e *policy.Event) { e.Kind, e.Ref = kind, name })
			}
		}
	}
	for _, kind := range []int{0, -1, 11, leastInt, greatestInt} {
		add("a kind "+strconv.Itoa(kind), api.ErrArg, func(e *policy.Event) { e.Kind = kind })
		add("a kind ahead of a day", api.ErrArg, func(e *policy.Event) { e.Kind, e.Day, e.Amount = kind, -1, -1 })
	}
	for kind := policy.Open; kind <= policy.Annul; kind++ {
		ref := ""
		if kind >= policy.Claim {
			ref = "r"
		}
		for _, day := range []int{-1, 100_001, leastInt, greatestInt} {
			add(kinds[kind-1]+" at the day "+strconv.Itoa(day), api.ErrRange, func(e *policy.Event) { e.Kind, e.Ref, e.Day = kind, ref, day })
			add("a day ahead of a Ref", api.ErrRange, func(e *policy.Event) { e.Kind, e.Ref, e.Day = kind, "A", day })
		}
		for _, amount := range []int{-1, 1_000_000_001, leastInt, greatestInt} {
			add(kinds[kind-1]+" of "+strconv.Itoa(amount), api.ErrRange, func(e *policy.Event) { e.Kind, e.Ref, e.Amount = kind, ref, amount })
			add("an amount ahead of a Ref", api.ErrRange, func(e *policy.Event) { e.Kind, e.Ref, e.Amount = kind, "A", amount })
		}
		if kind < policy.Claim {
			add(kinds[kind-1]+" with a Ref", api.ErrArg, func(e *policy.Event) { e.Kind, e.Ref = kind, "r" })
		}
	}
	for _, kind := range []int{policy.Close, policy.Settle, policy.Annul} {
		for _, amount := range []int{1, 1_000_000_000} {
			add(kinds[kind-1]+" with an amount", api.ErrArg, func(e *policy.Event) {
				e.Kind, e.Amount = kind, amount
				if kind != policy.Close {
					e.Ref = "r"
				}
			})
		}
	}
	return l
}

type amissEvent struct {
	what string
	e    policy.Event
	err  api.Errno
}

// 17.1: what an event may not be is told ahead of what was told already; nothing is changed.
func TestAddAmiss(t *testing.T) {
	for _, c := range amissEvents() {
		empty, full := policy.New(), fullBook(t)
		for _, b := range []*policy.Book{empty, full, book(t, "i p open 1 2; r p pay 1 2")} {
			known := b.Known()
			if err := b.Add(c.e); err != error(c.err) || b.Known() != known {
				t.Errorf("%s: %v, not %v; %d known", c.what, err, c.err, b.Known())
			}
		}
	}
}

// fullBook has 2,000 events of the policy p: e0 opens it, and then so much is paid each day.
func fullBook(t *testing.T) *policy.Book {
	t.Helper()
	b := policy.New()
	for i := range 2000 {
		e := policy.Event{Id: "e" + strconv.Itoa(i), Policy: "p", Kind: policy.Pay, Day: i, Amount: 1_000_000_000}
		if i == 0 {
			e.Kind = policy.Open
		}
		if err := b.Add(e); err != nil {
			t.Fatal(err)
		}
	}
	return b
}

// 17.1: the edges of what an event may be, of each kind.
func TestAddEdges(t *testing.T) {
	longest := strings.Repeat("z", 20)
	for kind := policy.Open; kind < policy.Annul; kind++ {
		for _, name := range []string{"a", "0", "-", "z9-", longest} {
			for _, day := range []int{0, 100_000} {
				for _, amount := range []int{0, 1_000_000_000} {
					e := policy.Event{Id: name, Policy: name, Kind: kind, Day: day, Amount: amount}
					if kind >= policy.Claim {
						e.Ref = name
					}
					if kind == policy.Close || kind == policy.Settle {
						e.Amount = 0
					}
					b := policy.New()
					if err := b.Add(e); err != nil || b.Known() != 1 {
						t.Errorf("%v: %v, %d known", e, err, b.Known())
					}
					a := policy.Event{Id: "annul", Policy: name, Kind: policy.Annul, Day: 100_000 - day, Ref: name}
					if err := b.Add(a); err != nil || b.Known() != 2 {
						t.Errorf("%v: %v, %d known", a, err, b.Known())
					}
				}
			}
		}
	}
}

// 17.1: what is told twice is told once; another event of the same Id is not told, whichever field is another one.
func TestAddTwice(t *testing.T) {
	b := book(t, "i p claim 3 4 c; j p pay 0 0; a p annul 5 0 i")
	for _, text := range []string{"i p claim 3 4 c", "a p annul 5 0 i", "j p pay 0 0"} {
		if err := b.Add(event(t, text)); err != nil || b.Known() != 3 {
			t.Errorf("%s again: %v, %d known", text, err, b.Known())
		}
	}
	for _, text := range []string{
		"i q claim 3 4 c", "i p put 3 4 c", "i p claim 4 4 c", "i p claim 3 5 c", "i p claim 3 4 d", "i p open 3 4",
		"i p annul 3 0 i", "i p annul 3 0 none", // ahead of ErrMissing
		"a p annul 6 0 i", "a p annul 5 0 j", "a p annul 5 0 a", "a q annul 5 0 i", "a p pay 5 0",
	} {
		if err := b.Add(event(t, text)); err != error(api.ErrExists) || b.Known() != 3 {
			t.Errorf("%s: %v, %d known", text, err, b.Known())
		}
	}
}

// 17.1: an Annul names an event of its policy that was told already, and no Annul.
func TestAddAnnul(t *testing.T) {
	b := book(t, "i p open 3 4; j q pay 3 4; a p annul 5 0 i; k p claim 0 0 c")
	for what, text := range map[string]string{
		"none":                   "x p annul 0 0 none",
		"of another policy":      "x p annul 0 0 j",
		"of this one by another": "x q annul 0 0 i",
		"an Annul":               "x p annul 0 0 a",
		"an Annul, by another":   "x q annul 0 0 a",
		"itself":                 "x p annul 0 0 x",
		"a case":                 "x p annul 0 0 c",
		"a policy":               "x p annul 0 0 p",
	} {
		if err := b.Add(event(t, text)); err != error(api.ErrMissing) || b.Known() != 4 {
			t.Errorf("%s: %v, %d known", what, err, b.Known())
		}
	}
	tell(t, b, "x q annul 0 0 j; y p annul 9 0 i; z p annul 5 0 i; c p annul 0 0 k")
	if b.Known() != 8 {
		t.Errorf("%d known", b.Known())
	}
}

// 17.1: 2,000 events at most, of all policies; what is told already, or amiss, is told first.
func TestAddLimit(t *testing.T) {
	b := fullBook(t)
	for _, c := range []struct {
		text string
		err  error
	}{
		{"e1999 p pay 1999 1000000000", nil},
		{"e0 p open 0 1000000000", nil},
		{"e1999 p pay 1999 0", api.ErrExists},
		{"x p annul 0 0 none", api.ErrMissing},
		{"x q annul 0 0 e1", api.ErrMissing},
		{"x p annul 0 0 e1", api.ErrLimit},
		{"x q open 0 0", api.ErrLimit},
		{"x p pay 0 0", api.ErrLimit},
	} {
		if err := b.Add(event(t, c.text)); err != c.err || b.Known() != 2000 {
			t.Errorf("%s: %v, not %v; %d known", c.text, err, c.err, b.Known())
		}
	}
	wantNow(t, b, 100_000, "on 1000000000 20000200000000/73 1999000000000 0")
	wantNow(t, b, 1, "on 1000000000 400000000/73 1000000000 0")
	c := policy.New()
	for i := range 2000 {
		if err := c.Add(policy.Event{Id: strconv.Itoa(i), Policy: strconv.Itoa(i % 7), Kind: policy.Open}); err != nil || c.Known() != i+1 {
			t.Fatalf("event %d: %v, %d known", i, err, c.Known())
		}
	}
	if err := c.Add(policy.Event{Id: "2000", Policy: "0", Kind: policy.Open}); err != error(api.ErrLimit) {
		t.Errorf("event 2000: %v", err)
	}
}

// 17.1: a new book has no events, and two books nothing in common.
func TestNew(t *testing.T) {
	a, b := policy.New(), policy.New()
	tell(t, a, "i p open 0 1")
	if a.Known() != 1 || b.Known() != 0 {
		t.Errorf("%d and %d known", a.Known(), b.Known())
	}
	tell(t, b, "i p open 0 2")
	wantNow(t, a, 0, "on 1 1/365 0 0")
	wantNow(t, b, 0, "on 2 2/365 0 0")
}
