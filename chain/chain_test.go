package chain_test

import (
	"strconv"
	"strings"
	"testing"

	"tontine/api"
	"tontine/chain"
	"tontine/frac"
)

// wrong are matrices that may not be, and why.
var wrong = []struct {
	text string
	want api.Errno
}{
	{"", api.ErrLimit},
	{"0", api.ErrSum},
	{"2", api.ErrSum},
	{"-1", api.ErrArg},
	{"1 0", api.ErrForm},
	{"-1 3", api.ErrForm},
	{"1;1", api.ErrForm},
	{"1 0;1", api.ErrForm},
	{"1 0;0 1 0", api.ErrForm},
	{"1 0;", api.ErrForm},
	{"1 0;1/2 1/3", api.ErrSum},
	{"1/2 1/3;1/2 1/2", api.ErrSum},
	{"1 0;0 1001/1000", api.ErrSum},
	{"3/2 -1/2;0 1", api.ErrArg},
	{"1 0;-1/2 3/2", api.ErrArg},
	{"1 0;-1 1", api.ErrArg},
	{"0 0;0 0", api.ErrSum},
	// of a row ErrForm ahead of ErrArg ahead of ErrSum; of several rows the first one's
	{"-1 0 0;0 1", api.ErrForm},
	{"-1 1;0 1", api.ErrArg},
	{"1/2 0;-1 2", api.ErrSum},
	{"1/2 0;1", api.ErrSum},
	{"-1 2;1/2 0", api.ErrArg},
	{"-1 2;1", api.ErrArg},
	{"1;-1 2", api.ErrForm},
	{"1;1/2 0", api.ErrForm},
	{"1 0 0;0 1 0;0 0 1/2", api.ErrSum},
}

// 3.1: Check, row by row.
func TestCheck(t *testing.T) {
	for _, text := range []string{"1", "0 1;1 0", "1/2 1/2;1/3 2/3", "1 0;0 1", "2/6 4/6 0;0 0 1;1/7 2/7 4/7", "1/1000000000000000000007 1000000000000000000006/1000000000000000000007;1 0"} {
		if err := chain.Check(matrix(t, text)); err != nil {
			t.Errorf("%s: %v", text, err)
		}
	}
	for _, c := range wrong {
		wantError(t, c.text, chain.Check(matrix(t, c.text)), c.want)
	}
	wantError(t, "empty", chain.Check(chain.Matrix{}), api.ErrLimit)
	wantError(t, "no row", chain.Check(chain.Matrix{nil}), api.ErrForm)
}

// 3.1: as many states as may be, and more; ErrLimit is told ahead of what is wrong in the rows.
func TestCheckLimit(t *testing.T) {
	for n := 1; n <= api.MaxStates; n++ {
		if err := chain.Check(unit(n)); err != nil {
			t.Errorf("%d states: %v", n, err)
		}
	}
	wantError(t, "a state too many", chain.Check(unit(api.MaxStates+1)), api.ErrLimit)
	wantError(t, "many", chain.Check(make(chain.Matrix, 1000)), api.ErrLimit)
	m := unit(api.MaxStates + 1)
	m[0] = fracs(t, "-1")
	wantError(t, "a state too many, and more", chain.Check(m), api.ErrLimit)
}

// 3.2: the errors of New, year by year, and those of Classes, Steady and Ends, which are Check's.
func TestNewErrors(t *testing.T) {
	for _, c := range wrong {
		m := matrix(t, c.text)
		l, err := chain.New([]chain.Matrix{m})
		wantError(t, "New of "+c.text, err, c.want, l)
		of, closed, err := chain.Classes(m)
		wantError(t, "Classes of "+c.text, err, c.want, of, closed)
		steady, err := chain.Steady(m)
		wantError(t, "Steady of "+c.text, err, c.want, steady)
		ends, years, err := chain.Ends(m)
		wantError(t, "Ends of "+c.text, err, c.want, ends, years)
		// as a later year, it is told what Check says, ahead of ErrForm for its rows
		l, err = chain.New([]chain.Matrix{unit(2), m})
		wantError(t, "New of a year and "+c.text, err, c.want, l)
	}
	for _, c := range []struct {
		text string
		want api.Errno
	}{
		{"1 0;0 1|1", api.ErrForm},
		{"1|1 0;0 1", api.ErrForm},
		{"1|1|1 0;0 1", api.ErrForm},
		{"1|1 0;0 1|2", api.ErrForm},
		{"1|2|1 0;0 1", api.ErrSum},
		{"1|1 0;0 2", api.ErrSum},
		{"1|-1 2;0 1", api.ErrArg},
		{"1||1 0;0 1", api.ErrLimit},
		{"2|1 0;0 1", api.ErrSum},
	} {
		l, err := chain.New(matrices(t, c.text))
		wantError(t, c.text, err, c.want, l)
	}
	for _, m := range []chain.Matrix{nil, {}, unit(api.MaxStates + 1)} {
		of, closed, err := chain.Classes(m)
		wantError(t, "Classes", err, api.ErrLimit, of, closed)
		steady, err := chain.Steady(m)
		wantError(t, "Steady", err, api.ErrLimit, steady)
		ends, years, err := chain.Ends(m)
		wantError(t, "Ends", err, api.ErrLimit, ends, years)
	}
}

// 3.2: as many years as may be, and more; none.
func TestNewLimit(t *testing.T) {
	for _, l := range [][]chain.Matrix{nil, {}, make([]chain.Matrix, api.MaxYears+1)} {
		c, err := chain.New(l)
		wantError(t, strconv.Itoa(len(l))+" years", err, api.ErrLimit, c)
	}
	var l []chain.Matrix
	for range api.MaxYears {
		l = append(l, unit(api.MaxStates))
	}
	c := made(t, l)
	if c.Years() != api.MaxYears || c.States() != api.MaxStates {
		t.Errorf("%d years, %d states", c.Years(), c.States())
	}
	none, err := chain.New(append(l, unit(api.MaxStates)))
	wantError(t, "a year too many", err, api.ErrLimit, none)
}

// 3.2: States, Years and Step, and Step's error.
func TestStep(t *testing.T) {
	texts := "1/2 1/2;0 1|1/3 2/3;2/6 4/6|0 1;1/1000000007 1000000006/1000000007"
	l := matrices(t, texts)
	c := made(t, l)
	if c.States() != 2 || c.Years() != 3 {
		t.Errorf("%d states, %d years", c.States(), c.Years())
	}
	for year := range 3 {
		for from := range 2 {
			for to := range 2 {
				f, err := c.Step(year, from, to)
				want(t, "Step", f, err, l[year][from][to].Text())
			}
		}
	}
	for _, a := range [][3]int{{-1, 0, 0}, {3, 0, 0}, {0, -1, 0}, {0, 2, 0}, {0, 0, -1}, {0, 0, 2}, {leastInt, 0, 0}, {greatestInt, 0, 0}, {0, leastInt, 0}, {0, greatestInt, 0}, {0, 0, leastInt}, {0, 0, greatestInt}, {3, 2, 2}} {
		f, err := c.Step(a[0], a[1], a[2])
		wantError(t, "Step", err, api.ErrRange, f)
	}
	one := made(t, matrices(t, "1"))
	f, err := one.Step(0, 0, 0)
	want(t, "one state", f, err, "1")
	if one.States() != 1 || one.Years() != 1 {
		t.Errorf("%d states, %d years", one.States(), one.Years())
	}
}

// P4: a chain keeps nothing that was handed in, and nothing is written there.
func TestNewKeepsNothing(t *testing.T) {
	texts := "1/2 1/2;0 1|1/3 2/3;2/5 3/5"
	l := matrices(t, texts)
	c := made(t, l)
	again := matrices(t, texts)
	for y := range l {
		if written(l[y]) != written(again[y]) {
			t.Errorf("what was handed in became %s", written(l[y]))
		}
		for i := range l[y] {
			l[y][i][0] = frac.Whole(7)
		}
		l[y][1] = nil
		l[y] = nil
	}
	for y, m := range again {
		for i, row := range m {
			for k, f := range row {
				got, err := c.Step(y, i, k)
				want(t, "Step", got, err, f.Text())
			}
		}
	}
}

// P4: what stands behind the rows' lengths is neither read nor written.
func TestRoomBehind(t *testing.T) {
	room := fracs(t, "1/2 1/2 9 1/4 3/4 8")
	rows := chain.Matrix{room[:2], room[3:5], nil}
	m := rows[:2]
	before := frac.Words(room)
	c := made(t, []chain.Matrix{m})
	spread, err := c.Spread(room[3:5], 0, 1)
	wantRow(t, "Spread", spread, err, "5/16 11/16")
	steady, err := chain.Steady(m)
	wantRow(t, "Steady", steady, err, "1/3 2/3")
	ends, years, err := chain.Ends(m)
	if err != nil || written(ends) != "1 1; 1 1" || frac.Words(years) != "0 0" {
		t.Errorf("Ends: %s, %s, %v", written(ends), frac.Words(years), err)
	}
	if _, _, err := chain.Classes(m); err != nil {
		t.Error(err)
	}
	if frac.Words(room) != before || rows[2] != nil {
		t.Errorf("what was handed in became %s", frac.Words(room))
	}
	// one row twice is no two rows that are written into
	same := chain.Matrix{room[:2], room[:2]}
	ends, years, err = chain.Ends(chain.Matrix{fracs(t, "1 0"), room[:2]})
	if err != nil || written(ends) != "1 0; 1 0" || frac.Words(years) != "0 2" {
		t.Errorf("Ends: %s, %s, %v", written(ends), frac.Words(years), err)
	}
	steady, err = chain.Steady(same)
	wantRow(t, "Steady", steady, err, "1/2 1/2")
	if frac.Words(room) != before {
		t.Errorf("what was handed in became %s", frac.Words(room))
	}
}

// A row that is far too long is told at once.
func TestLongRow(t *testing.T) {
	m := unit(2)
	m[1] = make([]frac.Frac, 1_000_000)
	wantError(t, "long row", chain.Check(m), api.ErrForm)
	wantError(t, "long text", chain.Check(matrix(t, strings.Repeat("0 ", 500)+";1")), api.ErrForm)
}
