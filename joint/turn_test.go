package joint_test

import (
	"fmt"
	"math/big"
	"math/rand"
	"slices"
	"strings"
	"testing"

	"tontine/api"
	"tontine/frac"
	"tontine/joint"
)

// wantTurns fails unless at all places Turn tells what all ways in which people may die do, with all orders of those who die in one year.
func wantTurns(t *testing.T, l []person) {
	t.Helper()
	all, of := ways(t, l), lives(t, l)
	for place := 1; place <= len(l); place++ {
		var rats []*big.Rat
		for i := range l {
			rats = append(rats, mean(all, func(w way) *big.Rat { return w.places(place)[i] }))
		}
		row, err := joint.Turn(of, place)
		wantRats(t, fmt.Sprint("Turn of ", l, " at ", place), row, err, rats)
	}
}

// 6.4: by hand.
func TestTurnByHand(t *testing.T) {
	for _, s := range []struct{ people, turns string }{
		{"1", "1"},
		{"0 0 1/3 1", "1"},
		{"1;1", "1/2 1/2;1/2 1/2"},
		{"1;0 1", "1 0;0 1"},
		{"0 1;1", "0 1;1 0"},
		{"1/2 1;1", "1/4 3/4;3/4 1/4"},
		{"1/2 1;1/2 1", "1/2 1/2;1/2 1/2"},
		{"1/2 1;1/3 1", "7/12 5/12;5/12 7/12"},
		{"1;1;1", "1/3 1/3 1/3;1/3 1/3 1/3;1/3 1/3 1/3"},
		{"1;1;0 1", "1/2 1/2 0;1/2 1/2 0;0 0 1"},
		{"1;0 1;0 0 1;0 1", "1 0 0 0;0 1/2 0 1/2;0 1/2 0 1/2;0 0 1 0"},
		{"++1/3 1;+0 0 1", "1 0;0 1"},
	} {
		l := lives(t, people(s.people))
		for i, text := range strings.Split(s.turns, ";") {
			row, err := joint.Turn(l, i+1)
			wantRow(t, fmt.Sprint(s.people, " at ", i+1), row, err, text)
		}
	}
}

// 6.4: against all ways and all orders.
func TestTurnAllWays(t *testing.T) {
	r := rand.New(rand.NewSource(64))
	for range 60 {
		wantTurns(t, drawnPeople(r, 1+r.Intn(4), 4))
	}
	for range 3 {
		wantTurns(t, drawnPeople(r, 5, 3))
	}
}

// wantCertain fails unless those who may have a place have it for certain together, and each has some place for certain.
func wantCertain(t *testing.T, l []joint.Life) {
	t.Helper()
	each := make([]frac.Frac, len(l))
	for place := 1; place <= len(l); place++ {
		row, err := joint.Turn(l, place)
		if err != nil || len(row) != len(l) {
			t.Fatalf("Turn at %d: %d numbers, %v", place, len(row), err)
		}
		var sum frac.Frac
		for i, f := range row {
			if f.Sign() < 0 {
				t.Errorf("at %d: %s", place, f.Text())
			}
			sum = sum.Add(f)
			each[i] = each[i].Add(f)
		}
		want(t, fmt.Sprint("all at ", place), sum, nil, "1")
	}
	for i, f := range each {
		want(t, fmt.Sprint("all places of ", i), f, nil, "1")
	}
}

// 6.4: as many lives as there may be: all of one place are 1 together, and each has all places with 1 together.
func TestTurnCertain(t *testing.T) {
	r := rand.New(rand.NewSource(46))
	wantCertain(t, long(t, r, api.MaxDigits, 6))
	wantCertain(t, long(t, r, 2, 40))
	wantCertain(t, lives(t, drawnPeople(r, api.MaxLives, 8)))
	wantCertain(t, slices.Repeat([]joint.Life{{Table: seen(t), Age: 60}}, api.MaxLives))
}

// 6.4: twelve alike have each place alike; of eleven alike and one who lives for certain until they are dead that one is the last.
func TestTurnAlike(t *testing.T) {
	alike := slices.Repeat(people("1/10 2/9 3/7 3/4 1"), api.MaxLives)
	for place := 1; place <= api.MaxLives; place++ {
		row, err := joint.Turn(lives(t, alike), place)
		wantRow(t, fmt.Sprint("alike, at ", place), row, err, strings.TrimSpace(strings.Repeat("1/12 ", api.MaxLives)))
	}
	alike[4].rates = "0 0 0 0 0 1"
	for place := 1; place < api.MaxLives; place++ {
		row, err := joint.Turn(lives(t, alike), place)
		wantRow(t, fmt.Sprint("all but one alike, at ", place), row, err, strings.Repeat("1/11 ", 4)+"0"+strings.Repeat(" 1/11", 7))
	}
	row, err := joint.Turn(lives(t, alike), api.MaxLives)
	wantRow(t, "the last one", row, err, strings.Repeat("0 ", 4)+"1"+strings.Repeat(" 0", 7))
}

// 6.4: the order of the lives does not count: each keeps their own.
func TestTurnOrder(t *testing.T) {
	r := rand.New(rand.NewSource(640))
	l := lives(t, drawnPeople(r, 7, 5))
	for place := 1; place <= len(l); place++ {
		row, err := joint.Turn(l, place)
		turned, errToo := joint.Turn(append(slices.Clone(l[3:]), l[:3]...), place)
		if err != nil || errToo != nil || frac.Words(turned) != frac.Words(append(slices.Clone(row[3:]), row[:3]...)) {
			t.Errorf("at %d: %s, turned %s, %v, %v", place, frac.Words(row), frac.Words(turned), err, errToo)
		}
	}
}
