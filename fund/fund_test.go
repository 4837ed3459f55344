package fund_test

import (
	"math/rand"
	"slices"
	"strconv"
	"testing"

	"tontine/api"
	"tontine/frac"
	"tontine/fund"
)

// amissFunds are funds that may not be, each with what it is told by.
func amissFunds(t *testing.T) []amissFund {
	t.Helper()
	return []amissFund{
		{"no member", fund.Fund{}, api.ErrLimit},
		{"no member, an empty list", fund.Fund{Stakes: []int{}, By: 7, Risks: fracs(t, "2")}, api.ErrLimit},
		{"too many members", many(t, api.MaxSize+1, 1, 0), api.ErrLimit},
		{"too many members, all else amiss", fund.Fund{Stakes: make([]int, api.MaxSize+1), By: 3}, api.ErrLimit},
		{"By below 0", fund.Fund{Stakes: []int{1}, By: -1}, api.ErrArg},
		{"By above 2", fund.Fund{Stakes: []int{1}, By: 3}, api.ErrArg},
		{"the least By", fund.Fund{Stakes: []int{1}, By: leastInt}, api.ErrArg},
		{"By ahead of Risks and stakes", fund.Fund{Stakes: []int{0}, By: 3, Risks: fracs(t, "2 2")}, api.ErrArg},
		{"By 0 with Risks", fund.Fund{Stakes: []int{1}, Risks: fracs(t, "1/2")}, api.ErrForm},
		{"By 1 with Risks", fund.Fund{Stakes: []int{1}, By: 1, Risks: fracs(t, "1/2")}, api.ErrForm},
		{"By 2 without Risks", fund.Fund{Stakes: []int{1}, By: 2}, api.ErrForm},
		{"too few Risks", fund.Fund{Stakes: []int{1, 1}, By: 2, Risks: fracs(t, "1/2")}, api.ErrForm},
		{"too many Risks", fund.Fund{Stakes: []int{1, 1}, By: 2, Risks: fracs(t, "1/2 1/2 1/2")}, api.ErrForm},
		{"Risks ahead of stakes", fund.Fund{Stakes: []int{0}, By: 2, Risks: fracs(t, "2 2")}, api.ErrForm},
		{"a stake of 0", fund.Fund{Stakes: []int{1, 0}}, api.ErrRange},
		{"a stake below 0", fund.Fund{Stakes: []int{-1, 1}}, api.ErrRange},
		{"a stake above 10^9", fund.Fund{Stakes: []int{1, 1, 1_000_000_001}, By: 1}, api.ErrRange},
		{"the greatest stakes", fund.Fund{Stakes: []int{greatestInt, greatestInt}}, api.ErrRange},
		{"the last stake ahead of the first risk", fund.Fund{Stakes: []int{1, 0}, By: 2, Risks: fracs(t, "0 1/2")}, api.ErrRange},
		{"a risk of 0", fund.Fund{Stakes: []int{1, 1}, By: 2, Risks: fracs(t, "1/2 0")}, api.ErrArg},
		{"a risk of 1", fund.Fund{Stakes: []int{1, 1}, By: 2, Risks: fracs(t, "1 1/2")}, api.ErrArg},
		{"a risk below 0", fund.Fund{Stakes: []int{1}, By: 2, Risks: fracs(t, "-1/2")}, api.ErrArg},
		{"a risk above 1", fund.Fund{Stakes: []int{1}, By: 2, Risks: fracs(t, "3/2")}, api.ErrArg},
	}
}

type amissFund struct {
	what string
	f    fund.Fund
	e    api.Errno
}

// 16.1: what a fund may not be; Run and Many say what Check says, ahead of all else.
func TestCheckErrors(t *testing.T) {
	years := slices.Repeat([]fund.Year{year(t, "2", "2", -1)}, api.MaxYears+1)
	for _, c := range amissFunds(t) {
		wantError(t, c.what, fund.Check(c.f), c.e)
		states, err := fund.Run(c.f, years)
		wantError(t, "Run, "+c.what, err, c.e, states)
		states, err = fund.Many(c.f, make([][]fund.Year, api.MaxSize+1), 0)
		wantError(t, "Many, "+c.what, err, c.e, states)
		states, err = fund.Many(c.f, nil, 1)
		wantError(t, "Many of none, "+c.what, err, c.e, states)
	}
}

// 16.1: the edges of what a fund may be.
func TestCheckEdges(t *testing.T) {
	tiny := one(t, "1/10")
	for range 10 {
		tiny = tiny.Mul(tiny) // the lower number has 1025 digits at last
	}
	for what, f := range map[string]fund.Fund{
		"one member":               many(t, 1, 1, 0),
		"the most members":         many(t, api.MaxSize, 1_000_000_000, 0),
		"the most members, alike":  many(t, api.MaxSize, 1_000_000_000, 1),
		"the most members, risks":  many(t, api.MaxSize, 1_000_000_000, 2),
		"risks near to 0 and to 1": {Stakes: []int{1, 1}, By: 2, Risks: []frac.Frac{tiny, frac.Whole(1).Sub(tiny)}},
		"an empty list of risks":   {Stakes: []int{1}, By: 1, Risks: []frac.Frac{}},
	} {
		if err := fund.Check(f); err != nil {
			t.Errorf("%s: %v", what, err)
		}
	}
}

// 16.2: the document's example.
func TestRunExample(t *testing.T) {
	f := fund.Fund{Stakes: []int{100, 200, 300}}
	l, err := fund.Run(f, []fund.Year{year(t, "5%", "1/10", 1)})
	wantStates(t, "the example", l, err,
		fund.State{Have: []int{100, 200, 300}, Paid: []int{0, 0, 0}, Come: 600},
		fund.State{Have: []int{143, 0, 425}, Paid: []int{15, 0, 47}, Come: 630})
}

// 16.2: the start's state alone, where there are no years.
func TestRunStart(t *testing.T) {
	for by := range 3 {
		f := many(t, 3, 7, by)
		start := fund.State{Have: []int{7, 7, 7}, Paid: []int{0, 0, 0}, Come: 21}
		l, err := fund.Run(f, nil)
		wantStates(t, "no years", l, err, start)
		l, err = fund.Run(f, []fund.Year{{}})
		wantStates(t, "a year of nothing", l, err, start, start)
	}
}

// 16.2: what each has more, and what each is paid, is rounded down of each alone.
func TestRunRounded(t *testing.T) {
	f := fund.Fund{Stakes: []int{1, 2, 3, 5}}
	l, err := fund.Run(f, []fund.Year{year(t, "2/3", "0"), year(t, "0", "1/2"), year(t, "1", "1")})
	wantStates(t, "rounded", l, err,
		fund.State{Have: []int{1, 2, 3, 5}, Paid: []int{0, 0, 0, 0}, Come: 11},
		fund.State{Have: []int{1, 3, 5, 8}, Paid: []int{0, 0, 0, 0}, Come: 17},
		fund.State{Have: []int{1, 2, 3, 4}, Paid: []int{0, 1, 2, 4}, Come: 17},
		fund.State{Have: []int{0, 0, 0, 0}, Paid: []int{2, 5, 8, 12}, Come: 27})
}

// 16.2: what the dead leave is shared by what each has, alike, or by what each has times their risk.
func TestRunWeights(t *testing.T) {
	years := []fund.Year{year(t, "0", "0", 3)}
	for by, have := range [][]int{{110, 221, 331, 0}, {121, 221, 320, 0}, {137, 219, 306, 0}} {
		f := fund.Fund{Stakes: []int{100, 200, 300, 62}, By: by}
		if by == 2 {
			f.Risks = fracs(t, "6/10 15/100 1/30 9/10")
		}
		l, err := fund.Run(f, years)
		if err != nil || len(l) != 2 || !slices.Equal(l[1].Have, have) {
			t.Errorf("By %d: %v, %v, not %v", by, l, err, have)
		}
	}
}

// 16.2: those who die together leave what they have together, with this year's rate on it, and get nothing of it.
func TestRunTogether(t *testing.T) {
	f := fund.Fund{Stakes: []int{10, 20, 30, 40}}
	l, err := fund.Run(f, []fund.Year{year(t, "1/2", "0", 3, 0)})
	wantStates(t, "two die", l, err,
		fund.State{Have: []int{10, 20, 30, 40}, Paid: []int{0, 0, 0, 0}, Come: 100},
		fund.State{Have: []int{0, 60, 90, 0}, Paid: []int{0, 0, 0, 0}, Come: 150})
}

// 16.2: who is dead has nothing, and dies no more, in the same year or later.
func TestRunDeadAlready(t *testing.T) {
	for by := range 3 {
		f := many(t, 3, 10, by)
		l, err := fund.Run(f, []fund.Year{year(t, "0", "0", 1, 1, 1), year(t, "1", "0", 1), year(t, "0", "1/3", 1, 0)})
		wantStates(t, "dead already", l, err,
			fund.State{Have: []int{10, 10, 10}, Paid: []int{0, 0, 0}, Come: 30},
			fund.State{Have: []int{15, 0, 15}, Paid: []int{0, 0, 0}, Come: 30},
			fund.State{Have: []int{30, 0, 30}, Paid: []int{0, 0, 0}, Come: 60},
			fund.State{Have: []int{0, 0, 40}, Paid: []int{0, 0, 20}, Come: 60})
	}
}

// 16.2: without living ones it is left; those who are dead keep what they were paid.
func TestRunNobody(t *testing.T) {
	for by := range 3 {
		f := many(t, 2, 10, by)
		l, err := fund.Run(f, []fund.Year{year(t, "0", "1/5"), year(t, "1/2", "1", 1, 0), year(t, "1", "1", 0)})
		wantStates(t, "nobody lives", l, err,
			fund.State{Have: []int{10, 10}, Paid: []int{0, 0}, Come: 20},
			fund.State{Have: []int{8, 8}, Paid: []int{2, 2}, Come: 20},
			fund.State{Have: []int{0, 0}, Paid: []int{2, 2}, Left: 24, Come: 28},
			fund.State{Have: []int{0, 0}, Paid: []int{2, 2}, Left: 24, Come: 28})
	}
}

// 16.2: one who lives while nobody has anything: all weights are 0, and nothing is left.
func TestRunPaidOut(t *testing.T) {
	for by := range 3 {
		l, err := fund.Run(many(t, 2, 5, by), []fund.Year{year(t, "0", "1"), year(t, "1", "1", 0)})
		none := fund.State{Have: []int{0, 0}, Paid: []int{5, 5}, Come: 10}
		wantStates(t, "paid out", l, err, fund.State{Have: []int{5, 5}, Paid: []int{0, 0}, Come: 10}, none, none)
	}
}

// 16.2: of one unit nothing is paid, however near to 1 Pay is: who lives has a share in what the dead leave.
func TestRunOneUnit(t *testing.T) {
	nearly := year(t, "0", "999999999/1000000000")
	last := nearly
	last.Dead = []int{1}
	for by := range 3 {
		f := many(t, 2, 1, by)
		f.Stakes[1] = 1_000_000_000
		l, err := fund.Run(f, []fund.Year{nearly, last, nearly})
		wantStates(t, "one unit", l, err,
			fund.State{Have: []int{1, 1_000_000_000}, Paid: []int{0, 0}, Come: 1_000_000_001},
			fund.State{Have: []int{1, 1}, Paid: []int{0, 999_999_999}, Come: 1_000_000_001},
			fund.State{Have: []int{1, 0}, Paid: []int{1, 999_999_999}, Come: 1_000_000_001},
			fund.State{Have: []int{1, 0}, Paid: []int{1, 999_999_999}, Come: 1_000_000_001})
	}
}

// 16.2: of equal ones the first gets what the shares leave.
func TestRunEqual(t *testing.T) {
	for by := range 3 {
		l, err := fund.Run(many(t, 4, 8, by), []fund.Year{year(t, "0", "0", 1)})
		wantStates(t, "8 by three", l, err,
			fund.State{Have: []int{8, 8, 8, 8}, Paid: []int{0, 0, 0, 0}, Come: 32},
			fund.State{Have: []int{11, 0, 11, 10}, Paid: []int{0, 0, 0, 0}, Come: 32})
	}
}

// 16.2: years that may not be, the first one's error first; within one ErrArg ahead of ErrRange.
func TestRunErrors(t *testing.T) {
	f := many(t, 3, 10, 0)
	good := year(t, "1/20", "1/10", 0, 2)
	for _, c := range []struct {
		what string
		l    []fund.Year
		e    api.Errno
	}{
		{"too many years", slices.Repeat([]fund.Year{good}, api.MaxYears+1), api.ErrLimit},
		{"too many years, amiss", slices.Repeat([]fund.Year{year(t, "2", "2", 9)}, api.MaxYears+1), api.ErrLimit},
		{"a rate below 0", []fund.Year{good, year(t, "-1/100", "0")}, api.ErrArg},
		{"a rate above 1", []fund.Year{year(t, "101/100", "0"), good}, api.ErrArg},
		{"paid below 0", []fund.Year{year(t, "0", "-1/100")}, api.ErrArg},
		{"paid above 1", []fund.Year{good, good, year(t, "0", "101/100")}, api.ErrArg},
		{"the rate ahead of the dead", []fund.Year{year(t, "2", "0", 3)}, api.ErrArg},
		{"what is paid ahead of the dead", []fund.Year{year(t, "0", "2", 3)}, api.ErrArg},
		{"a member below 0", []fund.Year{good, year(t, "0", "0", 0, -1)}, api.ErrRange},
		{"a member beyond", []fund.Year{year(t, "0", "0", 1, 2, 3)}, api.ErrRange},
		{"the least member", []fund.Year{year(t, "0", "0", leastInt)}, api.ErrRange},
		{"the greatest member", []fund.Year{year(t, "0", "0", greatestInt)}, api.ErrRange},
		{"the first year first: dead", []fund.Year{year(t, "0", "0", 3), year(t, "2", "0")}, api.ErrRange},
		{"the first year first: rate", []fund.Year{year(t, "2", "0"), year(t, "0", "0", 3)}, api.ErrArg},
	} {
		states, err := fund.Run(f, c.l)
		wantError(t, c.what, err, c.e, states)
		states, err = fund.Many(f, [][]fund.Year{{good}, c.l}, 2)
		wantError(t, "Many, "+c.what, err, c.e, states)
	}
	l, err := fund.Run(f, slices.Repeat([]fund.Year{good}, api.MaxYears))
	if err != nil || len(l) != api.MaxYears+1 {
		t.Errorf("the most years: %d states, %v", len(l), err)
	}
}

// grown are 19 years by which one of 10^9 comes to 524288 times as much, and a last one by which Come is so much then.
func grown(t *testing.T, come int) []fund.Year {
	t.Helper()
	const grown = 524_288_000_000_000
	rate, err := frac.Of(come-grown, grown)
	if err != nil {
		t.Fatal(err)
	}
	return append(slices.Repeat([]fund.Year{year(t, "1", "0")}, 19), fund.Year{Rate: rate})
}

// 16.2: Come is at most MaxUnits; one unit more may not be, whatever becomes of it.
func TestRunMost(t *testing.T) {
	f := fund.Fund{Stakes: []int{1_000_000_000}}
	most, beyond := grown(t, api.MaxUnits), grown(t, api.MaxUnits+1)
	l, err := fund.Run(f, most)
	wantStates(t, "the most", l[20:], err, fund.State{Have: []int{api.MaxUnits}, Paid: []int{0}, Come: api.MaxUnits})
	states, err := fund.Run(f, beyond)
	wantError(t, "one more", err, api.ErrLimit, states)

	most[19].Dead, beyond[19].Dead = []int{0}, []int{0}
	l, err = fund.Run(f, most)
	wantStates(t, "the most, left", l[20:], err, fund.State{Have: []int{0}, Paid: []int{0}, Left: api.MaxUnits, Come: api.MaxUnits})
	states, err = fund.Run(f, beyond)
	wantError(t, "one more, left", err, api.ErrLimit, states)

	most[18].Pay, beyond[19].Pay = one(t, "1"), one(t, "1")
	most[19].Dead, beyond[19].Dead = nil, nil
	l, err = fund.Run(f, most)
	wantStates(t, "paid ahead", l[20:], err, fund.State{Have: []int{0}, Paid: []int{524_288_000_000_000}, Come: 524_288_000_000_000})
	states, err = fund.Run(f, beyond)
	wantError(t, "one more, paid", err, api.ErrLimit, states)
	states, err = fund.Run(f, append(beyond, year(t, "0", "0")))
	wantError(t, "one more, a year ahead", err, api.ErrLimit, states)
	states, err = fund.Many(f, [][]fund.Year{nil, beyond}, 2)
	wantError(t, "one more, Many", err, api.ErrLimit, states)
}

// 16.2: where nearly MaxUnits are left behind, they are shared.
func TestRunMostShared(t *testing.T) {
	years := grown(t, api.MaxUnits-1_048_576) // the second comes to at most twice 524288
	years[19].Dead = []int{0}
	for by := range 3 {
		f := many(t, 2, 1, by)
		f.Stakes[0] = 1_000_000_000
		l, err := fund.Run(f, years)
		if err != nil {
			t.Fatal(err)
		}
		come := l[20].Come
		if come <= api.MaxUnits-1_048_576 || come > api.MaxUnits {
			t.Errorf("By %d: %d came", by, come)
		}
		wantStates(t, "shared", l[20:], nil, fund.State{Have: []int{0, come}, Paid: []int{0, 0}, Come: come})
	}
}

// 16.2: what a year may not be is told ahead of what came, whichever is the later one.
func TestRunOrder(t *testing.T) {
	f := fund.Fund{Stakes: []int{1_000_000_000}}
	beyond := grown(t, api.MaxUnits+1)
	for what, c := range map[string]struct {
		y fund.Year
		e api.Errno
	}{
		"a rate":   {year(t, "2", "0"), api.ErrArg},
		"paid":     {year(t, "0", "2"), api.ErrArg},
		"a member": {year(t, "0", "0", 1), api.ErrRange},
	} {
		states, err := fund.Run(f, append(slices.Clone(beyond), c.y))
		wantError(t, what, err, c.e, states)
	}
}

// 16.2: drawn funds, by the document's words; nothing is lost.
func TestRunOfAll(t *testing.T) {
	r := rand.New(rand.NewSource(162))
	for range 3000 {
		members := 1 + r.Intn(7)
		f, years := drawnFund(r, members), drawnYears(r, members)
		l, err := fund.Run(f, years)
		wantStates(t, "Run", l, err, states(f, years)...)
		for i, s := range l {
			if sum(s.Have)+sum(s.Paid)+s.Left != s.Come {
				t.Errorf("state %d: %v: something is lost", i, s)
			}
		}
		if t.Failed() {
			t.Fatalf("%v, %v", f, years)
		}
	}
}

// 16.2: as many members and years as may be, with great stakes and risks of many digits.
func TestRunGreat(t *testing.T) {
	r := rand.New(rand.NewSource(16))
	for by := range 3 {
		f := fund.Fund{By: by}
		for range api.MaxSize {
			f.Stakes = append(f.Stakes, 1_000_000_000-r.Intn(1000))
			if by == 2 {
				f.Risks = append(f.Risks, one(t, "0.0"+strconv.Itoa(1+r.Intn(1_000_000_000))))
			}
		}
		var years []fund.Year
		for i := range api.MaxYears {
			rate := one(t, "0.0"+strconv.Itoa(1+r.Intn(999_999_999)))
			years = append(years, fund.Year{Rate: rate, Dead: []int{i, r.Intn(api.MaxSize)}, Pay: one(t, "1/30")})
		}
		l, err := fund.Run(f, years)
		wantStates(t, "great", l, err, states(f, years)...)
		last, err := fund.Many(f, [][]fund.Year{years, nil, years}, 3)
		wantStates(t, "great, Many", last, err, l[api.MaxYears], l[0], l[api.MaxYears])
	}
}

// P4: nothing that is handed in is written into, nor what stands behind it; no two lists of what comes out share memory, nor any with what was handed in.
func TestRunMemory(t *testing.T) {
	stakes, dead, years := []int{10, 20, 30, 40, 7}, []int{1, 1, 9}, []fund.Year{{}, {}, year(t, "2", "2", 9)}
	f := fund.Fund{Stakes: stakes[:4], By: 2, Risks: fracs(t, "1/2 1/3 1/4 1/5 3")[:4]}
	years[0] = fund.Year{Rate: one(t, "1/10"), Dead: dead[:2], Pay: one(t, "1/3")}
	years[1] = fund.Year{Rate: one(t, "1/5")}
	l, err := fund.Run(f, years[:2])
	wantStates(t, "Run", l, err, states(f, years[:2])...)
	m, err := fund.Many(f, [][]fund.Year{nil, years[:2], years[:2], {}}, 3)
	wantStates(t, "Many", m, err, l[0], l[2], l[2], l[0])
	if !slices.Equal(stakes, []int{10, 20, 30, 40, 7}) || !slices.Equal(dead, []int{1, 1, 9}) || frac.Words(f.Risks[:5]) != "1/2 1/3 1/4 1/5 3" || years[2].Dead[0] != 9 {
		t.Errorf("written into: %v %v %v", stakes, dead, years)
	}
	var lists [][]int
	for _, s := range slices.Concat(l, m) {
		lists = append(lists, s.Have, s.Paid)
	}
	for i, list := range lists {
		list = list[:cap(list)]
		for k := range list {
			list[k] = -1 - i
		}
	}
	for i, list := range lists {
		for _, n := range list {
			if n != -1-i {
				t.Errorf("list %d shares memory", i)
			}
		}
	}
	if !slices.Equal(stakes, []int{10, 20, 30, 40, 7}) {
		t.Errorf("what comes out shares the stakes: %v", stakes)
	}
}
