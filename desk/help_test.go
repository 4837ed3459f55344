package desk_test

import (
	"math/big"
	"math/rand"
	"strings"
	"testing"

	"tontine/desk"
	"tontine/frac"
	"tontine/table"
)

const (
	leastInt    = -1 << 63
	greatestInt = 1<<63 - 1
)

// men is the table of the document's examples.
const men = "table t from 60 lives 1000 900 700 400 100"

// said is a line, and what it is answered.
type said struct{ line, answer string }

// wantSaid fails unless a session that begins with these lines (all of them answered ok) goes on so.
func wantSaid(t *testing.T, ahead []string, l ...said) {
	t.Helper()
	text, want := "", ""
	for _, line := range ahead {
		text += line + "\n"
		want += "ok\n"
	}
	for _, s := range l {
		text += s.line + "\n"
		want += s.answer + "\n"
	}
	wantSession(t, text, want)
}

// wantSession fails unless a text is answered so; it tells the first line that is not.
func wantSession(t *testing.T, text, want string) {
	t.Helper()
	got := desk.Session(text)
	if got == want {
		return
	}
	asked, told, wanted := strings.Split(text, "\n"), strings.Split(got, "\n"), strings.Split(want, "\n")
	for i := range min(len(asked), len(told), len(wanted)) {
		if told[i] != wanted[i] {
			t.Errorf("%.200q: %.200q, not %.200q", asked[i], told[i], wanted[i])
			return
		}
	}
	t.Errorf("%.200q: %d lines, not %d: %.200q", text, len(told), len(wanted), got)
}

// one is the fraction of a text.
func one(t *testing.T, text string) frac.Frac {
	t.Helper()
	f, err := frac.Parse(text)
	if err != nil {
		t.Fatalf("Parse(%q): %v", text, err)
	}
	return f
}

// tableOf is the table of a text.
func tableOf(t *testing.T, text string) *table.Table {
	t.Helper()
	made, err := table.Read(text)
	if err != nil {
		t.Fatalf("Read(%q): %v", text, err)
	}
	return made
}

// rat is a fraction of the library.
func rat(f frac.Frac) *big.Rat {
	x, _ := new(big.Rat).SetString(f.Text())
	return x
}

// drawnFrac is a fraction from 0 on, below 1.
func drawnFrac(r *rand.Rand) frac.Frac {
	under := 2 + r.Intn(9)
	f, _ := frac.Of(r.Intn(under), under)
	return f
}

// drawnTable is one of few ages.
func drawnTable(t *testing.T, r *rand.Rand) *table.Table {
	t.Helper()
	var q []frac.Frac
	for range r.Intn(5) {
		q = append(q, drawnFrac(r))
	}
	made, err := table.New("drawn", r.Intn(100), append(q, frac.Whole(1)))
	if err != nil {
		t.Fatal(err)
	}
	return made
}

// promise is what a life is promised, by the document's words.
type promise struct {
	t                 *table.Table
	age, years        int
	rate, dead, alive *big.Rat
}

// worth is what is paid out, and what premiums of 1 are paid in, of one who lives at a time, worth then.
func (p promise) worth(time int) (benefits, premiums *big.Rat) {
	benefits, premiums = new(big.Rat), new(big.Rat)
	lives, discount := big.NewRat(1, 1), big.NewRat(1, 1)
	year := new(big.Rat).Inv(new(big.Rat).Add(big.NewRat(1, 1), p.rate))
	for ; time < p.years; time++ {
		premiums.Add(premiums, times(lives, discount))
		q, _ := p.t.Q(p.age + time)
		discount = times(discount, year)
		benefits.Add(benefits, times(lives, rat(q), discount, p.dead))
		lives = times(lives, new(big.Rat).Sub(big.NewRat(1, 1), rat(q)))
	}
	return benefits.Add(benefits, times(lives, discount, p.alive)), premiums
}

// times is the product of all.
func times(l ...*big.Rat) *big.Rat {
	all := big.NewRat(1, 1)
	for _, x := range l {
		all.Mul(all, x)
	}
	return all
}
