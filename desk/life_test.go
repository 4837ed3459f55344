package desk_test

import (
	"math/big"
	"math/rand"
	"slices"
	"testing"

	"tontine/api"
	"tontine/desk"
	"tontine/frac"
)

// 18.1: what is wrong, one behind the other.
func TestLifeErrors(t *testing.T) {
	old := tableOf(t, men)
	for _, c := range []struct {
		what       string
		age, years int
		rate       string
		err        api.Errno
	}{
		{"no years", 60, 0, "0", api.ErrLimit},
		{"fewer years than none", 60, -1, "0", api.ErrLimit},
		{"the fewest years", 60, leastInt, "0", api.ErrLimit},
		{"a year too many", 60, api.MaxYears + 1, "0", api.ErrLimit},
		{"the most years", 60, greatestInt, "0", api.ErrLimit},
		{"years ahead of an age and a rate", 59, 0, "-1", api.ErrLimit},
		{"an age too young", 59, 3, "0", api.ErrRange},
		{"an age below 0", -1, 3, "0", api.ErrRange},
		{"the youngest", leastInt, 3, "0", api.ErrRange},
		{"an age ahead of a rate", 59, 3, "-1", api.ErrRange},
		{"a rate of -1", 60, 3, "-1", api.ErrArg},
		{"a rate below -1", 60, 3, "-3/2", api.ErrArg},
		{"a rate of -1, of one who is older than all", greatestInt, 1, "-1", api.ErrArg},
	} {
		life, err := desk.Life(old, c.age, c.years, one(t, c.rate), frac.Whole(1), frac.Whole(1))
		if err != error(c.err) || life != nil {
			t.Errorf("%s: %v, %v, not %v", c.what, life, err, c.err)
		}
		life, err = desk.Life(nil, c.age, c.years, one(t, c.rate), frac.Whole(1), frac.Whole(1))
		if err != error(api.ErrArg) || life != nil {
			t.Errorf("%s, without a table: %v, %v", c.what, life, err)
		}
	}
}

// 18.1: the document's example: 1000 at the end of the year of death.
func TestLifeExample(t *testing.T) {
	life, err := desk.Life(tableOf(t, men), 60, 3, one(t, "5%"), frac.Whole(1000), frac.Frac{})
	if err != nil {
		t.Fatal(err)
	}
	premium, err := life.Premium()
	if err != nil || premium.Text() != "1654000/7693" {
		t.Errorf("the premium is %s, %v", premium.Text(), err)
	}
	for year, want := range map[int]string{0: "0", 1: "1382000/9891", 3: "0"} {
		if reserve, err := life.Reserve(premium, year, 0); err != nil || reserve.Text() != want {
			t.Errorf("behind %d years: %s, %v", year, reserve.Text(), err)
		}
	}
}

// 18.1: the fields of the cover: who is dead pays nothing and is paid nothing.
func TestLifeFields(t *testing.T) {
	life, err := desk.Life(tableOf(t, men), 61, 5, one(t, "5%"), frac.Whole(7), frac.Whole(9))
	if err != nil {
		t.Fatal(err)
	}
	if life.Chain.States() != 2 || life.Chain.Years() != 5 || life.Start != 0 {
		t.Errorf("%d states, %d years, from %d on", life.Chain.States(), life.Chain.Years(), life.Start)
	}
	for year, want := range []string{"2/9", "3/7", "3/4", "1", "1"} {
		dies, _ := life.Chain.Step(year, 0, 1)
		dead, _ := life.Chain.Step(year, 1, 1)
		if dies.Text() != want || dead.Text() != "1" {
			t.Errorf("year %d: %s die, %s of the dead stay so", year, dies.Text(), dead.Text())
		}
	}
	for what, l := range map[string]struct {
		got  []frac.Frac
		want string
	}{
		"Rates": {life.Rates, "1/20 1/20 1/20 1/20 1/20"}, "Stay": {life.Stay, "0 0"}, "End": {life.End, "9 0"}, "Pay": {life.Pay, "1 0"},
		"Move": {slices.Concat(life.Move...), "0 7 0 0"},
	} {
		if got := frac.Words(l.got); got != l.want {
			t.Errorf("%s: %s, not %s", what, got, l.want)
		}
	}
}

// 18.1: the edges of years and ages: behind the last age all die within a year, however old one is.
func TestLifeEdges(t *testing.T) {
	old := tableOf(t, men)
	for _, age := range []int{64, 65, 1000, greatestInt - 1, greatestInt} {
		for _, years := range []int{1, 2, api.MaxYears} {
			life, err := desk.Life(old, age, years, frac.Whole(1), frac.Whole(6), frac.Whole(1000))
			if err != nil {
				t.Fatalf("%d, %d years: %v", age, years, err)
			}
			premium, err := life.Premium()
			if err != nil || premium.Text() != "3" || life.Chain.Years() != years {
				t.Errorf("%d, %d years: %s, %v", age, years, premium.Text(), err)
			}
			for year := range years {
				if dies, err := life.Chain.Step(year, 0, 1); err != nil || dies.Text() != "1" {
					t.Errorf("%d, %d years, in the year %d: %s die, %v", age, years, year, dies.Text(), err)
				}
			}
		}
	}
	life, err := desk.Life(old, 60, 1, frac.Frac{}, frac.Whole(-10), frac.Whole(100))
	if err != nil {
		t.Fatal(err)
	}
	if premium, err := life.Premium(); err != nil || premium.Text() != "89" {
		t.Errorf("one year: %s, %v", premium.Text(), err)
	}
}

// 18.1: of drawn lives what is paid out and in, at each time, is what the document's words say.
func TestLifeDrawn(t *testing.T) {
	r := rand.New(rand.NewSource(18))
	for range 300 {
		drawn := drawnTable(t, r)
		first, _ := drawn.Ages()
		age, years := first+r.Intn(6), 1+r.Intn(6)
		rate, dead, alive := drawnFrac(r).Sub(drawnFrac(r)), frac.Whole(r.Intn(9)).Sub(drawnFrac(r)), frac.Whole(r.Intn(9)-2)
		life, err := desk.Life(drawn, age, years, rate, dead, alive)
		if err != nil {
			t.Fatal(err)
		}
		p := promise{drawn, age, years, rat(rate), rat(dead), rat(alive)}
		for time := range years + 1 {
			benefits, premiums := p.worth(time)
			out, _ := life.Benefits(time, 0)
			in, _ := life.Premiums(time, 0)
			if rat(out).Cmp(benefits) != 0 || rat(in).Cmp(premiums) != 0 {
				t.Fatalf("%s, age %d, %d years, at %d: %s and %s, not %s and %s", drawn.Text(), age, years, time, out.Text(), in.Text(), benefits.RatString(), premiums.RatString())
			}
			if nothing, _ := life.Benefits(time, 1); nothing.Sign() != 0 {
				t.Fatalf("the dead are paid %s", nothing.Text())
			}
		}
		benefits, premiums := p.worth(0)
		if premium, _ := life.Premium(); rat(premium).Cmp(new(big.Rat).Quo(benefits, premiums)) != 0 {
			t.Fatalf("%s, age %d, %d years: the premium is %s", drawn.Text(), age, years, premium.Text())
		}
	}
}

// P4: two covers of one life have nothing in common.
func TestLifeApart(t *testing.T) {
	old := tableOf(t, men)
	a, _ := desk.Life(old, 60, 2, frac.Frac{}, frac.Whole(1), frac.Frac{})
	b, _ := desk.Life(old, 60, 2, frac.Frac{}, frac.Whole(1), frac.Frac{})
	a.Rates[0], a.Stay[0], a.End[0], a.Pay[0], a.Move[0][1] = frac.Whole(7), frac.Whole(7), frac.Whole(7), frac.Whole(7), frac.Whole(7)
	if frac.Words(b.Rates) != "0 0" || frac.Words(b.Stay) != "0 0" || frac.Words(b.End) != "0 0" || frac.Words(b.Pay) != "1 0" || frac.Words(b.Move[0]) != "0 1" {
		t.Errorf("the other cover: %v", b)
	}
}
