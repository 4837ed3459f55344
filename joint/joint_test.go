package joint_test

import (
	"fmt"
	"math/big"
	"math/rand"
	"slices"
	"strings"
	"testing"

	"tontine/api"
	"tontine/frac"
	"tontine/joint"
)

// DOC.md, example 6.
func TestExample(t *testing.T) {
	l := []joint.Life{{Table: seen(t), Age: 60}, {Table: seen(t), Age: 61}}
	f, err := joint.Income(l, 1, 3, one(t, "5%"))
	want(t, "while one lives", f, err, "395/147")
	f, err = joint.Income(l, 2, 3, one(t, "5%"))
	want(t, "while both live", f, err, "1105/567")
}

// asked is a call with lives, and nothing amiss but what these are.
type asked struct {
	what string
	call func(l []joint.Life) (any, error)
}

// calls are all, the lists' length aside.
func calls(rate frac.Frac) []asked {
	return []asked{
		{"Alive", func(l []joint.Life) (any, error) { return joint.Alive(l, 1) }},
		{"Least", func(l []joint.Life) (any, error) { return joint.Least(l, 1, 1) }},
		{"Income", func(l []joint.Life) (any, error) { return joint.Income(l, 1, 2, rate) }},
		{"Left", func(l []joint.Life) (any, error) { return joint.Left(l, 1) }},
		{"Turn", func(l []joint.Life) (any, error) { return joint.Turn(l, 1) }},
	}
}

// 6.1: how many there may be, and what each may be; of several lives the first one's error.
func TestLives(t *testing.T) {
	good := joint.Life{Table: seen(t), Age: 60}
	none := joint.Life{Age: 60}
	young := joint.Life{Table: seen(t), Age: 59}
	for _, c := range calls(one(t, "5%")) {
		for _, s := range []struct {
			what string
			l    []joint.Life
			e    api.Errno
		}{
			{"nil", nil, api.ErrLimit},
			{"no lives", []joint.Life{}, api.ErrLimit},
			{"one more than there may be", slices.Repeat([]joint.Life{good}, api.MaxLives+1), api.ErrLimit},
			{"too many, without tables", slices.Repeat([]joint.Life{none}, api.MaxLives+1), api.ErrLimit},
			{"far too many", slices.Repeat([]joint.Life{young}, 10000), api.ErrLimit},
			{"no table", []joint.Life{none}, api.ErrArg},
			{"no table, no age", []joint.Life{{}}, api.ErrArg},
			{"no table at last", []joint.Life{good, good, none}, api.ErrArg},
			{"no table, below 0", []joint.Life{{Age: -1}}, api.ErrArg},
			{"below the first age", []joint.Life{young}, api.ErrRange},
			{"below the first age at last", []joint.Life{good, young}, api.ErrRange},
			{"the least age", []joint.Life{good, {Table: seen(t), Age: leastInt}}, api.ErrRange},
			{"first no table, then too young", []joint.Life{none, young}, api.ErrArg},
			{"first too young, then no table", []joint.Life{young, none}, api.ErrRange},
			{"first well, then too young, then no table", []joint.Life{good, young, none}, api.ErrRange},
		} {
			x, err := c.call(s.l)
			wantError(t, c.what+", "+s.what, err, s.e, x)
		}
		for _, n := range []int{1, api.MaxLives} {
			if _, err := c.call(slices.Repeat([]joint.Life{good}, n)); err != nil {
				t.Errorf("%s of %d: %v", c.what, n, err)
			}
		}
	}
}

// 6.2, 6.3, 6.4: each call's own errors, which are told behind those of the lives.
func TestErrors(t *testing.T) {
	good := []joint.Life{{Table: seen(t), Age: 60}, {Table: seen(t), Age: 61}}
	none := []joint.Life{{Age: 60}}
	for _, years := range []int{-1, -2, leastInt} {
		l, err := joint.Alive(good, years)
		wantError(t, fmt.Sprint("Alive, years ", years), err, api.ErrRange, l)
		f, err := joint.Least(good, 1, years)
		wantError(t, fmt.Sprint("Least, years ", years), err, api.ErrRange, f)
		l, err = joint.Alive(none, years)
		wantError(t, "Alive, no table and no years", err, api.ErrArg, l)
		f, err = joint.Least(nil, 1, years)
		wantError(t, "Least, no lives and no years", err, api.ErrLimit, f)
	}
	for _, least := range []int{-1, 3, leastInt, greatestInt} {
		f, err := joint.Least(good, least, 1)
		wantError(t, fmt.Sprint("Least of ", least), err, api.ErrRange, f)
		f, err = joint.Income(good, least, 1, frac.Frac{})
		wantError(t, fmt.Sprint("Income of ", least), err, api.ErrRange, f)
		f, err = joint.Income(good, least, 0, frac.Frac{})
		wantError(t, fmt.Sprint("Income of ", least, ", no years"), err, api.ErrRange, f)
		f, err = joint.Left(good, least)
		wantError(t, fmt.Sprint("Left of ", least), err, api.ErrRange, f)
		f, err = joint.Least(none, least, 1)
		wantError(t, "Least, no table and no such number", err, api.ErrArg, f)
		f, err = joint.Left(none, least)
		wantError(t, "Left, no table and no such number", err, api.ErrArg, f)
	}
	f, err := joint.Left(good, 0)
	wantError(t, "Left of 0", err, api.ErrRange, f)
	f, err = joint.Left(none, 0)
	wantError(t, "Left of 0, no table", err, api.ErrArg, f)
	for _, place := range []int{0, -1, 3, leastInt, greatestInt} {
		l, err := joint.Turn(good, place)
		wantError(t, fmt.Sprint("Turn at ", place), err, api.ErrRange, l)
		l, err = joint.Turn(none, place)
		wantError(t, "Turn, no table and no such place", err, api.ErrArg, l)
		l, err = joint.Turn(nil, place)
		wantError(t, "Turn, no lives", err, api.ErrLimit, l)
	}
}

// 6.1, 6.2: Income says its own errors ahead of those of the lives: first of the years, then of the rate.
func TestIncomeErrors(t *testing.T) {
	good := []joint.Life{{Table: seen(t), Age: 60}}
	young := []joint.Life{{Table: seen(t), Age: 59}}
	for _, s := range []struct {
		what         string
		l            []joint.Life
		least, years int
		rate         string
		e            api.Errno
	}{
		{"years -1", good, 1, -1, "5%", api.ErrRange},
		{"the least years", good, 1, leastInt, "5%", api.ErrRange},
		{"a year too many", good, 1, api.MaxYears + 1, "5%", api.ErrRange},
		{"the most years", good, 1, greatestInt, "5%", api.ErrRange},
		{"rate -1", good, 1, 2, "-1", api.ErrArg},
		{"rate -1, no years", good, 1, 0, "-1", api.ErrArg},
		{"rate -1, one year", good, 1, 1, "-1", api.ErrArg},
		{"rate below -1", good, 1, 2, "-1000001/1000000", api.ErrArg},
		{"rate far below -1", good, 1, 2, "-1000000000000000000000000000000", api.ErrArg},
		{"years and rate", good, 1, -1, "-1", api.ErrRange},
		{"years and lives", nil, 1, -1, "5%", api.ErrRange},
		{"years and a table", []joint.Life{{}}, 1, -1, "5%", api.ErrRange},
		{"rate and lives", nil, 1, 2, "-1", api.ErrArg},
		{"rate and an age", young, 1, 2, "-1", api.ErrArg},
		{"rate and least", good, 2, 2, "-1", api.ErrArg},
		{"years and rate and lives", nil, 1, api.MaxYears + 1, "-1", api.ErrRange},
		{"lives and least", nil, 1, 2, "5%", api.ErrLimit},
		{"a table and least", []joint.Life{{}}, 2, 2, "5%", api.ErrArg},
		{"an age", young, 1, 2, "5%", api.ErrRange},
	} {
		f, err := joint.Income(s.l, s.least, s.years, one(t, s.rate))
		wantError(t, s.what, err, s.e, f)
	}
}

// 6.2, 6.3: by hand. Of two with 1/2 and 1/3 the first year, and the second one a year more.
func TestByHand(t *testing.T) {
	l := lives(t, people("1/2 1;1/3 3/4 1"))
	for years, s := range []struct{ alive, least string }{
		{"0 0 1", "1 1 1"},
		{"1/6 1/2 1/3", "1 5/6 1/3"},
		{"5/6 1/6 0", "1 1/6 0"},
		{"1 0 0", "1 0 0"},
		{"1 0 0", "1 0 0"},
	} {
		row, err := joint.Alive(l, years)
		wantRow(t, fmt.Sprint("Alive behind ", years), row, err, s.alive)
		for least, text := range strings.Fields(s.least) {
			f, err := joint.Least(l, least, years)
			want(t, fmt.Sprint("Least of ", least, " behind ", years), f, err, text)
		}
	}
	for _, s := range []struct {
		least, years int
		rate, text   string
	}{
		{1, 0, "1", "0"}, {1, 1, "1", "1"}, {1, 2, "1", "17/12"}, {1, 3, "1", "35/24"}, {1, 4, "1", "35/24"}, {1, 120, "1", "35/24"},
		{2, 0, "0", "0"}, {2, 1, "0", "1"}, {2, 2, "0", "4/3"}, {2, 3, "0", "4/3"},
		{0, 0, "-1/2", "0"}, {0, 1, "-1/2", "1"}, {0, 4, "-1/2", "15"}, {0, 3, "0", "3"}, {0, 3, "1", "7/4"},
		{1, 3, "-1/2", "10/3"},
	} {
		f, err := joint.Income(l, s.least, s.years, one(t, s.rate))
		want(t, fmt.Sprint("Income ", s), f, err, s.text)
	}
	for least, text := range []string{"", "1", "1/3"} {
		if least > 0 {
			f, err := joint.Left(l, least)
			want(t, fmt.Sprint("Left of ", least), f, err, text)
		}
	}
}

// wantAll fails unless all calls but Turn tell what all ways in which people may die do.
func wantAll(t *testing.T, l []person, rate string, years int) {
	t.Helper()
	all, of := ways(t, l), lives(t, l)
	for time := range years {
		row, err := joint.Alive(of, time)
		var rats []*big.Rat
		for n := range len(l) + 1 {
			rats = append(rats, chance(all, func(w way) bool { return w.alive(time) == n }))
		}
		wantRats(t, fmt.Sprint("Alive of ", l, " behind ", time), row, err, rats)
	}
	growth := new(big.Rat).Add(big.NewRat(1, 1), rat(t, rate))
	for least := range len(l) + 1 {
		what := fmt.Sprint(" of ", least, " of ", l)
		worth, discount := new(big.Rat), big.NewRat(1, 1)
		for time := range years {
			f, err := joint.Income(of, least, time, one(t, rate))
			wantRat(t, fmt.Sprint("Income", what, ", ", time, " at ", rate), f, err, worth)
			live := chance(all, func(w way) bool { return w.alive(time) >= least })
			f, err = joint.Least(of, least, time)
			wantRat(t, fmt.Sprint("Least", what, " behind ", time), f, err, live)
			worth.Add(worth, live.Mul(live, discount))
			discount.Quo(discount, growth)
		}
		if least == 0 {
			continue
		}
		f, err := joint.Left(of, least)
		wantRat(t, "Left"+what, f, err, mean(all, func(w way) *big.Rat {
			sorted := slices.Sorted(slices.Values(w.years))
			return big.NewRat(int64(sorted[len(sorted)-least]), 1)
		}))
	}
}

// 6.2, 6.3: against all ways in which people may die.
func TestAllWays(t *testing.T) {
	for _, s := range []string{"1", "++1", "0 1", "+0 1", "0 0 0 1;1", "1/7 0 1;+1/7 0 1;++1/7 0 1;+++1/7 0 1"} {
		wantAll(t, people(s), "1/20", 6)
	}
	r := rand.New(rand.NewSource(6))
	for range 60 {
		rate, _ := frac.Of(r.Intn(150)-90, 100+r.Intn(30))
		wantAll(t, drawnPeople(r, 1+r.Intn(4), 4), rate.Text(), 6)
	}
}

// 6.2, 6.3: one life is as its table tells.
func TestOneLife(t *testing.T) {
	table := seen(t)
	for age := 60; age < 68; age++ {
		l := []joint.Life{{Table: table, Age: age}}
		for years := range 8 {
			p, _ := table.P(age, years)
			f, err := joint.Least(l, 1, years)
			want(t, fmt.Sprint("Least of one of ", age, " behind ", years), f, err, p.Text())
			row, err := joint.Alive(l, years)
			wantRow(t, fmt.Sprint("Alive of one of ", age, " behind ", years), row, err, frac.Whole(1).Sub(p).Text()+" "+p.Text())
		}
		left, _ := table.Left(age)
		f, err := joint.Left(l, 1)
		want(t, fmt.Sprint("Left of one of ", age), f, err, left.Text())
	}
}

// 6.1: who is beyond the last age dies within the year, however old they are; and years may be as many as can be said.
func TestBeyond(t *testing.T) {
	old := []joint.Life{{Table: seen(t), Age: greatestInt}, {Table: seen(t), Age: 65}, {Table: seen(t), Age: greatestInt - 1}}
	row, err := joint.Alive(old, 0)
	wantRow(t, "Alive, the oldest, now", row, err, "0 0 0 1")
	f, err := joint.Income(old, 1, api.MaxYears, one(t, "5%"))
	want(t, "Income, the oldest", f, err, "1")
	f, err = joint.Income(old, 3, 5, one(t, "5%"))
	want(t, "Income, the oldest, all", f, err, "1")
	f, err = joint.Left(old, 1)
	want(t, "Left, the oldest", f, err, "0")
	row, err = joint.Turn(old, 2)
	wantRow(t, "Turn, the oldest", row, err, "1/3 1/3 1/3")
	old[1].Age = 63
	f, err = joint.Left(old, 1)
	want(t, "Left, one younger", f, err, "1/4")
	row, err = joint.Turn(old, 3)
	wantRow(t, "Turn, one younger", row, err, "1/4 1/2 1/4")
	for _, l := range [][]joint.Life{old, {{Table: seen(t), Age: 60}}} {
		for _, years := range []int{5, 6, greatestInt - 60, greatestInt} {
			row, err = joint.Alive(l, years)
			wantRow(t, fmt.Sprint("Alive behind ", years), row, err, "1"+strings.Repeat(" 0", len(l)))
			f, err = joint.Least(l, 1, years)
			want(t, fmt.Sprint("Least of 1 behind ", years), f, err, "0")
			f, err = joint.Least(l, 0, years)
			want(t, fmt.Sprint("Least of 0 behind ", years), f, err, "1")
		}
	}
}

// 6.2: rates just above -1 and great ones, as many years as may be, and more of them than a table has.
func TestIncomeRates(t *testing.T) {
	l := lives(t, people("1/2 1/2 1"))
	for _, s := range []struct {
		least, years int
		rate, text   string
	}{
		{1, 3, "-999999/1000000", "250000500001"},
		{1, 3, "999", "4002001/4000000"},
		{0, api.MaxYears, "0", "120"},
		{1, api.MaxYears, "0", "7/4"},
		{1, 2, "99999999999999999999999999999999999999999999999999", "200000000000000000000000000000000000000000000000001/200000000000000000000000000000000000000000000000000"},
	} {
		f, err := joint.Income(l, s.least, s.years, one(t, s.rate))
		want(t, fmt.Sprint("Income ", s), f, err, s.text)
	}
	f, err := joint.Income(l, 0, api.MaxYears, one(t, "1"))
	two, _ := frac.Whole(2).Pow(api.MaxYears - 1)
	part, _ := frac.Whole(1).Div(two)
	want(t, "Income of 0 at 1", f, err, frac.Whole(2).Sub(part).Text())
}

// long are as many as there may be, by tables with rates of so many digits, for so many ages.
func long(t *testing.T, r *rand.Rand, digits, ages int) []joint.Life {
	t.Helper()
	var l []joint.Life
	for range api.MaxLives {
		text := "table t from 0 rates"
		for range ages - 1 {
			under := "9"
			for len(under) < digits {
				under += string(byte('0' + r.Intn(10)))
			}
			text += " " + under[digits/2:] + "/" + under
		}
		l = append(l, joint.Life{Table: read(t, text+" 1"), Age: r.Intn(ages)})
	}
	return l
}

// 6.2, 6.3: as many lives as there may be, with rates of as many digits as a text has: all numbers of them together are certain, and what of at least so many is told is the sum.
func TestLong(t *testing.T) {
	r := rand.New(rand.NewSource(66))
	for _, s := range []struct{ digits, ages int }{{api.MaxDigits, 6}, {4, api.MaxAge + 1}} {
		l := long(t, r, s.digits, s.ages)
		var sums [api.MaxLives + 1]frac.Frac
		for years := range s.ages + 1 {
			row, err := joint.Alive(l, years)
			if err != nil || len(row) != api.MaxLives+1 {
				t.Fatalf("Alive: %d numbers, %v", len(row), err)
			}
			var sum frac.Frac
			for n, f := range slices.Backward(row) {
				sum = sum.Add(f)
				if years > 0 {
					sums[n] = sums[n].Add(sum)
				}
				if years%10 == 1 {
					least, err := joint.Least(l, n, years)
					want(t, fmt.Sprint("Least of ", n), least, err, sum.Text())
				}
			}
			want(t, "all numbers together", sum, nil, "1")
		}
		for least := 1; least <= api.MaxLives; least++ {
			f, err := joint.Left(l, least)
			want(t, fmt.Sprint("Left of ", least), f, err, sums[least].Text())
		}
	}
}

// P4: what is handed in stays as it is, what stands behind it too, and what comes out is the caller's.
func TestMemory(t *testing.T) {
	l := lives(t, people("1/2 1/3 1;1/3 3/4 1;0 1/5 1;1/7 1"))
	all := slices.Clone(l)
	told := func() string {
		text := ""
		for _, c := range calls(one(t, "5%")) {
			x, err := c.call(l[:3])
			switch y := x.(type) {
			case []frac.Frac:
				text += frac.Words(y) + ";"
				for i := range y {
					y[i] = frac.Whole(99)
				}
				y = append(y[:0], frac.Whole(98))
			case frac.Frac:
				text += y.Text() + ";"
			}
			if err != nil {
				t.Errorf("%s: %v", c.what, err)
			}
		}
		return text
	}
	first := told()
	if again := told(); again != first {
		t.Errorf("%s, then %s", first, again)
	}
	if !slices.Equal(l, all) {
		t.Errorf("%v became %v", all, l)
	}
}
