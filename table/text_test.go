package table_test

import (
	"math/rand"
	"strconv"
	"strings"
	"testing"

	"tontine/api"
	"tontine/frac"
	"tontine/table"
)

// 2.3: what Text writes.
func TestText(t *testing.T) {
	for _, c := range []struct {
		name  string
		from  int
		rates string
		want  string
	}{
		{"t", 60, "1/10 1", "table t from 60 rates 1/10 1"},
		{"a-1", 0, "1", "table a-1 from 0 rates 1"},
		{"0", 130, "1", "table 0 from 130 rates 1"},
		{"t", 7, "0 50% 0.25 2/8 1.0", "table t from 7 rates 0 1/2 1/4 1/4 1"},
	} {
		if text := made(t, c.name, c.from, c.rates).Text(); text != c.want {
			t.Errorf("%q, not %q", text, c.want)
		}
	}
}

// 2.3: what is written is read again as it was.
func TestReadAgain(t *testing.T) {
	r := rand.New(rand.NewSource(3))
	for n := range api.MaxAge + 1 {
		rates := ""
		for range n {
			rates += drawn(r).Text() + " "
		}
		l := made(t, "t-"+strconv.Itoa(n), r.Intn(api.MaxAge-n+1), rates+"1")
		again := read(t, l.Text())
		from, to := l.Ages()
		fromAgain, toAgain := again.Ages()
		if again.Text() != l.Text() || again.Name() != l.Name() || fromAgain != from || toAgain != to {
			t.Errorf("%q is read again as %q", l.Text(), again.Text())
		}
		for age := from; age <= to; age++ {
			q, _ := l.Q(age)
			p, err := again.Q(age)
			want(t, "Q of "+strconv.Itoa(age), p, err, q.Text())
		}
	}
	digits := strings.Repeat("9", api.MaxDigits)
	long := "table t from 0 rates " + strings.Repeat("2/"+digits+" ", api.MaxAge) + "1"
	if text := read(t, long).Text(); text != long {
		t.Errorf("%.200q is read as %.200q", long, text)
	}
}

// 2.3: blanks and line feeds between words, ahead of them and behind them, and fractions as Parse has them.
func TestReadForms(t *testing.T) {
	const want = "table t from 60 rates 1/10 1/4 1"
	for _, text := range []string{
		want,
		" " + want,
		"\n\n " + want + " \n",
		"table\nt\nfrom\n60\nrates\n1/10\n1/4\n1",
		"table   t \n from\n\n60  rates 1/10 \n1/4      1",
		"table t from 60 rates 0.1 25% 1",
		"table t from 60 rates 10% 0.250 1.0",
		"table t from 60 rates 2/20 025/100 100%",
		want + strings.Repeat(" ", api.MaxText-len(want)),
		strings.Repeat("\n", api.MaxText-len(want)) + want,
	} {
		if got := read(t, text).Text(); got != want {
			t.Errorf("%.100q is read as %q", text, got)
		}
	}
	for _, c := range [][2]string{
		{"table lives from 0 rates 1", "table lives from 0 rates 1"},
		{"table from from 130 rates 1", "table from from 130 rates 1"},
		{"table - from 0 lives 3", "table - from 0 rates 1"},
	} {
		if got := read(t, c[0]).Text(); got != c[1] {
			t.Errorf("%q is read as %q", c[0], got)
		}
	}
}

// 2.3: behind lives stand numbers of those who live.
func TestReadLives(t *testing.T) {
	for _, c := range [][2]string{
		{"1000 900 700 400 100", "1/10 2/9 3/7 3/4 1"},
		{"5", "1"},
		{"1/2 1/3", "1/3 1"},
		{"5 5 5 1", "0 0 4/5 1"},
		{"0.5 25% 1/8", "1/2 1/2 1"},
	} {
		if got := read(t, "table t from 60 lives "+c[0]).Text(); got != "table t from 60 rates "+c[1] {
			t.Errorf("lives %s: %q", c[0], got)
		}
	}
}

// 2.3: the errors of Read, with their places, in their order.
func TestReadErrors(t *testing.T) {
	digits := strings.Repeat("1", api.MaxDigits+1)
	for _, c := range []struct {
		text  string
		want  api.Errno
		place int
	}{
		{"", api.ErrForm, 0},
		{" \n ", api.ErrForm, 3},
		{"tables", api.ErrForm, 0},
		{"  Table t from 60 rates 1", api.ErrForm, 2},
		{"\ttable t from 60 rates 1", api.ErrForm, 0},
		{"table\tt from 60 rates 1", api.ErrForm, 0},
		{"table\rt from 60 rates 1", api.ErrForm, 0},
		{"table", api.ErrForm, 5},
		{"table t", api.ErrForm, 7},
		{"table t  ", api.ErrForm, 9},
		{"table t from", api.ErrForm, 12},
		{"table t from 60", api.ErrForm, 15},
		{"table t from x", api.ErrForm, 14},
		{"table t from x \n", api.ErrForm, 16},
		{"table t to 60 rates 1", api.ErrForm, 8},
		{"table t to", api.ErrForm, 8},
		{"table  t\n to x y z", api.ErrForm, 10},
		{"x t to 60 rates 1", api.ErrForm, 0},
		{"table t from 60 rate 1", api.ErrForm, 16},
		{"table t from x rate 1", api.ErrForm, 15},
		{"table t from 60 Lives 1", api.ErrForm, 16},
		{"table t from 60 1 1", api.ErrForm, 16},
		{"table T from x rates ?", api.ErrForm, 13},
		{"table t from x rates 1", api.ErrForm, 13},
		{"table t from 060 rates 1", api.ErrForm, 13},
		{"table t from 00 rates 1", api.ErrForm, 13},
		{"table t from -0 rates 1", api.ErrForm, 13},
		{"table t from -060 rates 1", api.ErrForm, 13},
		{"table t from - rates 1", api.ErrForm, 13},
		{"table t from +60 rates 1", api.ErrForm, 13},
		{"table t from 6_0 rates 1", api.ErrForm, 13},
		{"table t from 0x3c rates 1", api.ErrForm, 13},
		{"table t from 60/1 rates 1", api.ErrForm, 13},
		{"table t from 60. rates 1", api.ErrForm, 13},
		{"table t from 9223372036854775808 rates 1", api.ErrForm, 13},
		{"table t from -9223372036854775809 rates 1", api.ErrForm, 13},
		{"table t from " + digits + " rates 1", api.ErrForm, 13},
		{"table t from x rates 1/0", api.ErrForm, 13},
		{"table t from 60 rates 1/0 1", api.ErrZero, 22},
		{"table t from 60 rates 1/2 1/ x", api.ErrForm, 26},
		{"table t from 60 rates 1/2\n 1. 1/0", api.ErrForm, 27},
		{"table t from 60 rates 1/2 1x", api.ErrForm, 26},
		{"table t from 60 rates 1/2\t1", api.ErrForm, 22},
		{"table t from 60 rates 1/2 " + digits + " x", api.ErrLimit, 26},
		{"table t from 60 rates 1/" + digits, api.ErrLimit, 22},
		{"table T from -1 rates 1/0", api.ErrZero, 22},
		{"table T from -1 lives 0 x", api.ErrForm, 24},
		{"table t from 60 lives 5 0", api.ErrArg, noPlace},
		{"table t from 60 lives 0 5", api.ErrArg, noPlace},
		{"table t from 60 lives 0", api.ErrArg, noPlace},
		{"table t from 60 lives -5 -1", api.ErrArg, noPlace},
		{"table T from -1 lives 5 0", api.ErrArg, noPlace},
		{"table t from 60 lives 5 6 1", api.ErrArg, noPlace},
		{"table t from 60 rates 1 1", api.ErrArg, noPlace},
		{"table t from 60 rates 1/2", api.ErrArg, noPlace},
		{"table t from 60 rates -1/2 1", api.ErrArg, noPlace},
		{"table T from 60 rates 1", api.ErrName, noPlace},
		{"table T from -1 rates 2", api.ErrName, noPlace},
		{"table T from 60 lives 5 6 1", api.ErrName, noPlace},
		{"table " + strings.Repeat("a", 21) + " from 60 rates 1", api.ErrName, noPlace},
		{"table t from 60 rates", api.ErrRange, noPlace},
		{"table t from 60 lives ", api.ErrRange, noPlace},
		{"table t from 131 rates 1", api.ErrRange, noPlace},
		{"table t from 130 rates 0 1", api.ErrRange, noPlace},
		{"table t from -1 rates 1", api.ErrRange, noPlace},
		{"table t from -1 lives 5 6", api.ErrRange, noPlace},
		{"table t from 9223372036854775807 rates 1", api.ErrRange, noPlace},
		{"table t from -9223372036854775808 rates 1", api.ErrRange, noPlace},
		{"table t from 0 rates " + strings.Repeat("0 ", api.MaxText/2-11) + "1", api.ErrRange, noPlace},
	} {
		l, err := table.Read(c.text)
		wantError(t, strconv.Quote(c.text[:min(len(c.text), 200)]), err, c.want, c.place, l)
	}
}

// 2.3: too long a text is told ahead of all else.
func TestReadLimit(t *testing.T) {
	const text = "table t from 60 rates 1"
	for _, s := range []string{
		text + strings.Repeat(" ", api.MaxText+1-len(text)),
		strings.Repeat("x", api.MaxText+1),
		strings.Repeat(" ", 10*api.MaxText),
	} {
		l, err := table.Read(s)
		wantError(t, "a text of "+strconv.Itoa(len(s)), err, api.ErrLimit, noPlace, l)
	}
	l, err := table.Read(strings.Repeat("x", api.MaxText))
	wantError(t, "a text just as long as may be", err, api.ErrForm, 0, l)
}

// P1: whatever the text, Read ends, and answers either a table or an error.
func TestReadAnything(t *testing.T) {
	r := rand.New(rand.NewSource(4))
	parts := []string{"table", "t", "from", "60", "rates", "lives", "1", "1/2", "0", "-1", "1/0", "%", " ", "\n", "  ", "\t", "\x00", "\xff", "ä", "99999999999999999999"}
	for range 5000 {
		var s strings.Builder
		for range r.Intn(14) {
			s.WriteString(parts[r.Intn(len(parts))])
			if r.Intn(4) > 0 {
				s.WriteByte(' ')
			}
		}
		l, err := table.Read(s.String())
		if (l == nil) == (err == nil) {
			t.Fatalf("%q: %v, %v", s.String(), l, err)
		}
		if e, at := told(err); at != noPlace && (e == api.OK || at < 0 || at > s.Len()) {
			t.Fatalf("%q: error %d at %d", s.String(), e, at)
		}
	}
}

// 2.3: a table that was read is as one that was made.
func TestReadIsNew(t *testing.T) {
	l := read(t, "table t from 60 lives 10 5 1")
	for i, q := range fracs(t, "1/2 4/5 1 1") {
		got, err := l.Q(60 + i)
		want(t, "Q of "+strconv.Itoa(60+i), got, err, q.Text())
	}
	if f, err := l.Q(59); err == nil || f.Cmp(frac.Frac{}) != 0 {
		t.Errorf("Q of 59: %s, %v", f.Text(), err)
	}
}
