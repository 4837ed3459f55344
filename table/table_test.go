package table_test

import (
	"math/big"
	"math/rand"
	"strconv"
	"strings"
	"testing"

	"tontine/api"
	"tontine/frac"
	"tontine/table"
)

// 2.1: a name has 1 to 20 bytes, small letters, digits and -.
func TestName(t *testing.T) {
	for _, s := range []string{"a", "z", "0", "9", "-", "--", "a-1", "men-1990", strings.Repeat("a", 20)} {
		if !table.Name(s) {
			t.Errorf("%q is a name", s)
		}
	}
	for _, s := range []string{"", strings.Repeat("a", 21), "A", "Z", "a b", " a", "a\n", "a_b", "a.b", "a\x00", "`", "{", "/", ":", ",", ".", "ä", "aé", "\xff", strings.Repeat("-", 1000)} {
		if table.Name(s) {
			t.Errorf("%q is no name", s)
		}
	}
	for b := range 256 {
		allowed := strings.IndexByte("abcdefghijklmnopqrstuvwxyz0123456789-", byte(b)) >= 0
		if table.Name(string([]byte{byte(b)})) != allowed {
			t.Errorf("byte %d: %v asked", b, allowed)
		}
	}
}

// 2.1: the errors of New, in their order.
func TestNewErrors(t *testing.T) {
	all := strings.Repeat("0 ", api.MaxAge) + "1"
	for _, c := range []struct {
		name  string
		from  int
		rates string
		want  api.Errno
	}{
		{"a", 0, "1", api.OK},
		{"a", 0, "0 1", api.OK},
		{"a", 0, all, api.OK},
		{"a", api.MaxAge, "1", api.OK},
		{"a", api.MaxAge - 1, "999/1000 1", api.OK},
		{"", 0, "1", api.ErrName},
		{"A", -1, "", api.ErrName},
		{"A", 0, "2", api.ErrName},
		{"a", 0, "", api.ErrRange},
		{"a", -1, "1", api.ErrRange},
		{"a", -1, "2", api.ErrRange},
		{"a", leastInt, "1", api.ErrRange},
		{"a", api.MaxAge + 1, "1", api.ErrRange},
		{"a", api.MaxAge, "0 1", api.ErrRange},
		{"a", api.MaxAge, "0 2", api.ErrRange},
		{"a", 1, all, api.ErrRange},
		{"a", 0, "0 " + all, api.ErrRange},
		{"a", greatestInt, "1", api.ErrRange},
		{"a", greatestInt, "0 0 1", api.ErrRange},
		{"a", 0, "0", api.ErrArg},
		{"a", 0, "1/2", api.ErrArg},
		{"a", 0, "2", api.ErrArg},
		{"a", 0, "-1", api.ErrArg},
		{"a", 0, "1 1", api.ErrArg},
		{"a", 0, "1/2 1 1/2 1", api.ErrArg},
		{"a", 0, "1/2 1 1/2", api.ErrArg},
		{"a", 0, "-1/1000 1", api.ErrArg},
		{"a", 0, "1001/1000 1", api.ErrArg},
		{"a", 0, "1/2 1001/1000", api.ErrArg},
		{"a", 0, "1/2 999/1000", api.ErrArg},
	} {
		what := c.name + " from " + strconv.Itoa(c.from) + ": " + c.rates
		l, err := table.New(c.name, c.from, fracs(t, c.rates))
		if c.want != api.OK {
			wantError(t, what, err, c.want, noPlace, l)
		} else if err != nil || l == nil {
			t.Errorf("%s: %v", what, err)
		}
	}
}

// 2.1: its name and its ages.
func TestNameAndAges(t *testing.T) {
	for _, c := range []struct {
		name     string
		from, to int
		rates    string
	}{
		{"t", 60, 64, "1/10 2/9 3/7 3/4 1"},
		{"men-1", 0, 0, "1"},
		{"w", api.MaxAge, api.MaxAge, "1"},
		{"0-9", 0, api.MaxAge, strings.Repeat("1/3 ", api.MaxAge) + "1"},
	} {
		l := made(t, c.name, c.from, c.rates)
		if l.Name() != c.name {
			t.Errorf("%s: its name is %q", c.name, l.Name())
		}
		if from, to := l.Ages(); from != c.from || to != c.to {
			t.Errorf("%s: ages %d to %d, not %d to %d", c.name, from, to, c.from, c.to)
		}
	}
}

// P4: a table keeps nothing that was handed in, and writes nothing there.
func TestNewKeepsNothing(t *testing.T) {
	room := fracs(t, "1/2 1/3 1 7 8")
	given := room[:3]
	l, err := table.New("t", 60, given)
	if err != nil {
		t.Fatal(err)
	}
	if text := frac.Words(room); text != "1/2 1/3 1 7 8" {
		t.Errorf("what was handed in became %s", text)
	}
	given[0], given[2] = frac.Whole(5), frac.Whole(6)
	if text := l.Text(); text != "table t from 60 rates 1/2 1/3 1" {
		t.Errorf("the table changed with the list: %s", text)
	}
}

// 2.2: how likely one dies within a year.
func TestQ(t *testing.T) {
	l := made(t, "t", 60, "1/10 2/9 0 3/4 1")
	for _, c := range []struct {
		age  int
		want string
	}{{60, "1/10"}, {61, "2/9"}, {62, "0"}, {63, "3/4"}, {64, "1"}, {65, "1"}, {131, "1"}, {greatestInt, "1"}} {
		f, err := l.Q(c.age)
		want(t, "Q of "+strconv.Itoa(c.age), f, err, c.want)
	}
	for _, age := range []int{59, 0, -1, leastInt} {
		f, err := l.Q(age)
		wantError(t, "Q of "+strconv.Itoa(age), err, api.ErrRange, noPlace, f)
	}
}

// 2.2: how likely one lives so many years.
func TestP(t *testing.T) {
	l := made(t, "t", 60, "1/10 2/9 3/7 3/4 1")
	for _, c := range []struct {
		age, years int
		want       string
	}{
		{60, 0, "1"}, {60, 1, "9/10"}, {60, 2, "7/10"}, {60, 3, "2/5"}, {60, 4, "1/10"}, {60, 5, "0"}, {60, 6, "0"},
		{60, greatestInt, "0"},
		{62, 0, "1"}, {62, 1, "4/7"}, {62, 2, "1/7"}, {62, 3, "0"},
		{64, 0, "1"}, {64, 1, "0"}, {64, greatestInt, "0"},
		{65, 0, "1"}, {65, 1, "0"}, {1000, 0, "1"}, {1000, 7, "0"},
		{greatestInt, 0, "1"}, {greatestInt, 1, "0"}, {greatestInt, greatestInt, "0"},
	} {
		f, err := l.P(c.age, c.years)
		want(t, "P of "+strconv.Itoa(c.age)+", "+strconv.Itoa(c.years), f, err, c.want)
	}
	for _, c := range [][2]int{{59, 0}, {59, 1}, {60, -1}, {65, -1}, {leastInt, 1}, {60, leastInt}, {leastInt, leastInt}, {leastInt, greatestInt}, {greatestInt, leastInt}} {
		f, err := l.P(c[0], c[1])
		wantError(t, "P of "+strconv.Itoa(c[0])+", "+strconv.Itoa(c[1]), err, api.ErrRange, noPlace, f)
	}
}

// 2.2: the whole years that are left, in the mean.
func TestLeft(t *testing.T) {
	l := read(t, "table t from 60 lives 1000 900 700 400 100")
	for _, c := range []struct {
		age  int
		want string
	}{{60, "21/10"}, {61, "4/3"}, {62, "5/7"}, {63, "1/4"}, {64, "0"}, {65, "0"}, {greatestInt, "0"}} {
		f, err := l.Left(c.age)
		want(t, "Left of "+strconv.Itoa(c.age), f, err, c.want)
	}
	for _, age := range []int{59, 0, -1, leastInt} {
		f, err := l.Left(age)
		wantError(t, "Left of "+strconv.Itoa(age), err, api.ErrRange, noPlace, f)
	}
}

// 2.2: with tables of all lengths: P is the product, Left the sum.
func TestProductAndSum(t *testing.T) {
	r := rand.New(rand.NewSource(2))
	for n := 1; n <= api.MaxAge+1; n += 1 + n/4 {
		var rates []frac.Frac
		for range n - 1 {
			rates = append(rates, drawn(r))
		}
		from := r.Intn(api.MaxAge - n + 2)
		l, err := table.New("t", from, append(rates, frac.Whole(1)))
		if err != nil {
			t.Fatal(err)
		}
		for _, age := range []int{from, from + n/2, from + n - 1, from + n} {
			wantSumOfProducts(t, l, age, n+2)
		}
	}
}

// wantSumOfProducts holds P and Left of an age against what the library makes of Q.
func wantSumOfProducts(t *testing.T, l *table.Table, age, years int) {
	t.Helper()
	product, sum := big.NewRat(1, 1), new(big.Rat)
	for n := range years {
		p, err := l.P(age, n)
		want(t, "P of "+strconv.Itoa(n), p, err, product.RatString())
		if n > 0 {
			sum.Add(sum, product)
		}
		q, err := l.Q(age + n)
		if err != nil {
			t.Fatal(err)
		}
		product.Mul(product, new(big.Rat).Sub(big.NewRat(1, 1), rat(t, q)))
	}
	left, err := l.Left(age)
	want(t, "Left of "+strconv.Itoa(age), left, err, sum.RatString())
}
