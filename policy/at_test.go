package policy_test

import (
	"strconv"
	"testing"

	"tontine/api"
	"tontine/policy"
)

// 17.2: known and day that may not be, ahead of what is not there.
func TestAtRange(t *testing.T) {
	for _, b := range []*policy.Book{policy.New(), book(t, "i p open 0 1; j q pay 0 0")} {
		for _, name := range []string{"p", "none", "", "A"} {
			for _, known := range []int{-1, b.Known() + 1, leastInt, greatestInt} {
				wantAtError(t, b, name, 0, known, api.ErrRange)
			}
			for _, day := range []int{-1, 100_001, leastInt, greatestInt} {
				wantAtError(t, b, name, day, 0, api.ErrRange)
				wantAtError(t, b, name, day, b.Known(), api.ErrRange)
			}
		}
	}
}

// 17.2: ErrMissing, where nothing counts: another policy's, later days', what was told later, what is annulled, Annuls.
func TestAtMissing(t *testing.T) {
	wantAtError(t, policy.New(), "p", 0, 0, api.ErrMissing)
	wantAtError(t, policy.New(), "p", 100_000, 0, api.ErrMissing)
	b := book(t, "i q open 3 1; j p open 5 1; a p annul 7 0 j")
	for _, c := range []struct {
		name       string
		day, known int
	}{
		{"none", 100_000, 3}, {"", 100_000, 3}, {"Q", 100_000, 3}, {"i", 100_000, 3},
		{"q", 2, 3}, {"q", 3, 0}, {"q", 100_000, 0},
		{"p", 4, 3}, {"p", 5, 1}, {"p", 7, 3}, {"p", 100_000, 3},
	} {
		wantAtError(t, b, c.name, c.day, c.known, api.ErrMissing)
	}
	wantAt(t, b, "q", 3, 1, "on 1 1/365 0 0")
	wantAt(t, b, "p", 5, 2, "on 1 1/365 0 0")
	wantAt(t, b, "p", 6, 3, "on 1 2/365 0 0")
	wantAt(t, b, "p", 7, 2, "on 1 3/365 0 0")
}

// 17.2: what does not fit is there too: it is passed over.
func TestAtPassedAlone(t *testing.T) {
	for _, text := range []string{"i p change 1 5", "i p close 1 0", "i p claim 1 5 c", "i p put 1 5 c", "i p out 1 0 c", "i p back 1 0 c", "i p settle 1 0 c"} {
		wantNow(t, book(t, text), 9, "off 0 0 0 1")
	}
	wantNow(t, book(t, "i p pay 1 5"), 9, "off 0 0 5 0")
	wantNow(t, book(t, "i p open 1 0"), 9, "on 0 0 0 0")
}

// 17.2: the table's rows, each where it fits and where it does not.
func TestAtKinds(t *testing.T) {
	on := "o p open 1 730; "
	open := on + "k p claim 2 50 c; "
	settled := open + "l p out 2 20 c; m p settle 2 0 c; "
	closed := open + "n p close 2 0; "
	for _, c := range []struct{ events, want string }{
		{on + "i p open 2 9", "on 730 4 0 1"},
		{on + "h p close 2 0; i p open 2 9", "off 0 2 0 1"},
		{on + "i p change 2 365", "on 365 3 0 0"},
		{on + "h p close 2 0; i p change 2 9", "off 0 2 0 1"},
		{on + "i p close 2 0", "off 0 2 0 0"},
		{on + "h p close 2 0; i p close 2 0", "off 0 2 0 1"},
		{on + "i p pay 2 7; j p pay 2 0; h p close 2 0; k p pay 2 7", "off 0 2 14 0"},
		{on + "i p claim 2 0 c", "on 730 4 0 0, c 0 0 0 open"},
		{open, "on 730 4 0 0, c 50 0 0 open"},
		{open + "i p claim 2 9 c", "on 730 4 0 1, c 50 0 0 open"},
		{open + "i p claim 2 9 b", "on 730 4 0 0, b 9 0 0 open, c 50 0 0 open"},
		{settled, "on 730 4 0 0, c 0 20 0"},
		{settled + "i p claim 2 9 c", "on 730 4 0 1, c 0 20 0"},
		{closed + "i p claim 2 9 b", "off 0 2 0 1, c 50 0 0 open"},
		{open + "i p put 2 9 c", "on 730 4 0 0, c 9 0 0 open"},
		{open + "i p put 2 9 b", "on 730 4 0 1, c 50 0 0 open"},
		{settled + "i p put 2 9 c", "on 730 4 0 1, c 0 20 0"},
		{closed + "i p put 2 9 c", "off 0 2 0 0, c 9 0 0 open"},
		{open + "i p out 2 50 c", "on 730 4 0 0, c 0 50 0 open"},
		{open + "i p out 2 51 c", "on 730 4 0 1, c 50 0 0 open"},
		{open + "i p out 2 30 c; j p out 2 20 c; h p out 2 1 c", "on 730 4 0 1, c 0 50 0 open"},
		{open + "i p out 2 1 b", "on 730 4 0 1, c 50 0 0 open"},
		{settled + "i p out 2 0 c", "on 730 4 0 1, c 0 20 0"},
		{closed + "i p out 2 30 c", "off 0 2 0 0, c 20 30 0 open"},
		{open + "i p back 2 0 c", "on 730 4 0 0, c 50 0 0 open"},
		{open + "i p back 2 1 c", "on 730 4 0 1, c 50 0 0 open"},
		{open + "i p out 2 30 c; j p back 2 20 c", "on 730 4 0 0, c 20 30 20 open"},
		{open + "i p out 2 30 c; j p back 2 20 c; h p back 2 11 c", "on 730 4 0 1, c 20 30 20 open"},
		{open + "i p out 2 30 c; j p back 2 20 c; h p back 2 10 c", "on 730 4 0 0, c 20 30 30 open"},
		{open + "i p back 2 0 b", "on 730 4 0 1, c 50 0 0 open"},
		{settled + "i p back 2 20 c", "on 730 4 0 0, c 0 20 20"},
		{settled + "i p back 2 21 c", "on 730 4 0 1, c 0 20 0"},
		{closed + "i p out 2 30 c; j p back 2 30 c", "off 0 2 0 0, c 20 30 30 open"},
		{open + "i p settle 2 0 c", "on 730 4 0 0, c 0 0 0"},
		{open + "i p settle 2 0 b", "on 730 4 0 1, c 50 0 0 open"},
		{settled + "i p settle 2 0 c", "on 730 4 0 1, c 0 20 0"},
		{closed + "i p settle 2 0 c", "off 0 2 0 0, c 0 0 0"},
	} {
		b := book(t, c.events)
		s, err := b.At("p", 2, b.Known())
		if err != nil || told(s) != c.want {
			t.Errorf("%s: %s, %v, not %s", c.events, told(s), err, c.want)
		}
	}
}

// 17.2: by Day, those of one Day as they were told, whatever their Ids and kinds are.
func TestAtOrder(t *testing.T) {
	wantNow(t, book(t, "z p change 1 365; y p open 0 730"), 1, "on 365 3 0 0")
	wantNow(t, book(t, "a p change 1 365; b p open 1 730"), 1, "on 730 2 0 1")
	wantNow(t, book(t, "z p open 1 730; y p change 1 365; x p change 1 1095"), 1, "on 1095 3 0 0")
	wantNow(t, book(t, "a p out 5 9 c; b p put 4 9 c; c p claim 3 1 c; d p open 2 0; e p settle 5 0 c; f p back 5 9 c"), 5, "on 0 0 0 0, c 0 9 9")
	wantNow(t, book(t, "a p close 5 0; b p open 5 9"), 5, "on 9 9/365 0 1")
	wantNow(t, book(t, "b p open 5 9; a p close 5 0"), 5, "off 0 0 0 0")
}

// 17.2: those of one day stay as they were told, also where there are many days, each with many of them.
func TestAtOrderOfMany(t *testing.T) {
	b := policy.New()
	tell(t, b, "o p open 0 0")
	for i := range 1500 {
		e := policy.Event{Id: "e" + strconv.Itoa(i), Policy: "p", Kind: policy.Change, Day: 1 + i*7%50, Amount: i}
		if err := b.Add(e); err != nil {
			t.Fatal(err)
		}
	}
	sum := 0
	for day := 1; day <= 50; day++ {
		last := 0
		for i := range 1500 {
			if 1+i*7%50 == day {
				last = i
			}
		}
		sum += last
		s, err := b.At("p", day, b.Known())
		if err != nil || s.Premium != last || s.Passed != 0 || s.Earned.Cmp(of(t, sum, 365)) != 0 {
			t.Errorf("day %d: %s, %v, not the premium %d", day, told(s), err, last)
		}
	}
}

// 17.2: earned is a 365th of the premium that holds at the end of each day, from the day of Open on.
func TestAtEarned(t *testing.T) {
	b := book(t, "o p open 10 365; c p change 12 730; d p change 12 1095; e p change 20 1; x p close 22 0; y p pay 9 1")
	for day, want := range map[int]string{
		9: "off 0 0 1 0", 10: "on 365 1 1 0", 11: "on 365 2 1 0", 12: "on 1095 5 1 0", 13: "on 1095 8 1 0", 19: "on 1095 26 1 0",
		20: "on 1 9491/365 1 0", 21: "on 1 9492/365 1 0", 22: "off 0 9492/365 1 0", 23: "off 0 9492/365 1 0", 100_000: "off 0 9492/365 1 0",
	} {
		wantNow(t, b, day, want)
	}
	wantNow(t, book(t, "o p open 0 365"), 0, "on 365 1 0 0")
	wantNow(t, book(t, "o p open 0 1000000000"), 100_000, "on 1000000000 20000200000000/73 0 0")
	wantNow(t, book(t, "o p open 100000 365"), 100_000, "on 365 1 0 0")
	wantNow(t, book(t, "o p open 5 365; x p close 5 0"), 100_000, "off 0 0 0 0")
	wantNow(t, book(t, "n p change 2 9; o p open 5 365; q p open 3 730"), 5, "on 730 6 0 2")
}

// 17.2: cases stand in order of their names, byte by byte.
func TestAtCases(t *testing.T) {
	b := book(t, "o p open 0 0; a p claim 1 1 z; b p claim 1 2 a; c p claim 1 3 -; d p claim 1 4 a-; e p claim 1 5 9; f p claim 1 6 aa; g p claim 1 7 a0; h p claim 1 8 10")
	wantNow(t, b, 1, "on 0 0 0 0, - 3 0 0 open, 10 8 0 0 open, 9 5 0 0 open, a 2 0 0 open, a- 4 0 0 open, a0 7 0 0 open, aa 6 0 0 open, z 1 0 0 open")
}

// 17.2: policies have nothing in common but the book: a case of one is none of another.
func TestAtPolicies(t *testing.T) {
	b := book(t, "a p open 0 365; b q open 1 730; c p claim 1 5 c; d q put 2 7 c; e q claim 2 8 c; f p settle 2 0 c; g p-q pay 2 9")
	wantAt(t, b, "p", 2, 7, "on 365 3 0 0, c 0 0 0")
	wantAt(t, b, "q", 2, 7, "on 730 4 0 1, c 8 0 0 open")
	wantAt(t, b, "p-q", 2, 7, "off 0 0 9 0")
}

// 17.2: the greatest amounts, as often as may be, are told exactly.
func TestAtGreatest(t *testing.T) {
	b := book(t, "o p open 0 1000000000; c p claim 0 0 c")
	for i := range 999 {
		n := strconv.Itoa(i)
		tell(t, b, "put"+n+" p put 0 1000000000 c; out"+n+" p out 0 1000000000 c")
	}
	wantNow(t, b, 100_000, "on 1000000000 20000200000000/73 0 0, c 0 999000000000 0 open")
}

// P4: what comes out is the caller's: writing into it changes no later answer.
func TestAtFresh(t *testing.T) {
	b := book(t, "o p open 0 1; a p claim 0 5 c; b p claim 0 6 d")
	want := "on 1 2/365 0 0, c 5 0 0 open, d 6 0 0 open"
	first, err := b.At("p", 1, 3)
	if err != nil {
		t.Fatal(err)
	}
	second, err := b.At("p", 1, 3)
	if err != nil {
		t.Fatal(err)
	}
	clear(first.Cases[:cap(first.Cases)])
	if told(second) != want {
		t.Errorf("two answers share: %s", told(second))
	}
	wantNow(t, b, 1, want)
}
