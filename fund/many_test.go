package fund_test

import (
	"math/rand"
	"slices"
	"testing"

	"tontine/api"
	"tontine/fund"
)

// 16.3: the last state of each tape, in their order; no matter how many work.
func TestManyOfAll(t *testing.T) {
	r := rand.New(rand.NewSource(163))
	for range 60 {
		members := 1 + r.Intn(6)
		f, tapes := drawnFund(r, members), drawnTapes(r, members)
		var last []fund.State
		for _, years := range tapes {
			l := states(f, years)
			last = append(last, l[len(l)-1])
		}
		for workers := 1; workers <= 16; workers++ {
			l, err := fund.Many(f, tapes, workers)
			wantStates(t, "Many", l, err, last...)
		}
	}
}

// 16.3: no tapes, tapes without years, as many as may be.
func TestManyEdges(t *testing.T) {
	f := many(t, 2, 5, 1)
	l, err := fund.Many(f, nil, 16)
	wantStates(t, "no tapes", l, err)
	start := fund.State{Have: []int{5, 5}, Paid: []int{0, 0}, Come: 10}
	l, err = fund.Many(f, [][]fund.Year{nil}, 16)
	wantStates(t, "no years", l, err, start)
	for _, workers := range []int{1, 16} {
		l, err = fund.Many(f, make([][]fund.Year, api.MaxSize), workers)
		wantStates(t, "the most tapes", l, err, slices.Repeat([]fund.State{start}, api.MaxSize)...)
	}
}

// 16.3: too many tapes, or another number of workers, ahead of what is amiss in a tape.
func TestManyLimits(t *testing.T) {
	f := many(t, 2, 5, 0)
	amiss := []fund.Year{year(t, "2", "0")}
	for _, tapes := range [][][]fund.Year{nil, {nil}, {amiss}} {
		for _, workers := range []int{0, 17, -1, leastInt, greatestInt} {
			l, err := fund.Many(f, tapes, workers)
			wantError(t, "workers", err, api.ErrLimit, l)
		}
	}
	for _, tapes := range [][][]fund.Year{make([][]fund.Year, api.MaxSize+1), slices.Repeat([][]fund.Year{amiss}, api.MaxSize+1)} {
		l, err := fund.Many(f, tapes, 1)
		wantError(t, "tapes", err, api.ErrLimit, l)
	}
}

// 16.3: the error of the first tape that has one, whichever is done first.
func TestManyFirstError(t *testing.T) {
	f := many(t, 3, 100, 0)
	long := append(slices.Repeat([]fund.Year{year(t, "1/7", "1/9")}, api.MaxYears-1), year(t, "0", "0", 3))
	short := []fund.Year{year(t, "2", "0")}
	many := slices.Repeat([]fund.Year{{}}, api.MaxYears+1)
	good := []fund.Year{year(t, "1/7", "1/9", 1)}
	for workers := 1; workers <= 16; workers++ {
		for _, c := range []struct {
			tapes [][]fund.Year
			e     api.Errno
		}{
			{[][]fund.Year{good, long, short, many}, api.ErrRange},
			{[][]fund.Year{short, long, good, many}, api.ErrArg},
			{[][]fund.Year{good, good, many, short, long}, api.ErrLimit},
			{append(slices.Repeat([][]fund.Year{good}, api.MaxSize-1), short), api.ErrArg},
		} {
			l, err := fund.Many(f, c.tapes, workers)
			wantError(t, "Many", err, c.e, l)
		}
	}
}
