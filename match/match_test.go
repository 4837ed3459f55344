package match_test

import (
	"fmt"
	"math/big"
	"math/rand"
	"slices"
	"strings"
	"testing"

	"tontine/api"
	"tontine/frac"
	"tontine/match"
)

// shows fails unless a plan pays the debts, costs what it says, and its worths show that nothing costs less.
func shows(t *testing.T, bonds []match.Bond, debts []frac.Frac, rate frac.Frac) match.Plan {
	t.Helper()
	what := written(bonds) + frac.Words(debts) + " at " + rate.Text()
	p, err := match.Cheapest(bonds, debts, rate)
	if err != nil || len(p.Buy) != len(bonds) || len(p.Cash) != len(debts)+1 || len(p.Worth) != len(debts) {
		t.Fatalf("%.300s: %v, %v", what, p, err)
	}
	buy, cash, worth, due := rats(t, p.Buy), rats(t, p.Cash), rats(t, p.Worth), rats(t, debts)
	for _, amount := range slices.Concat(buy, cash, worth) {
		if amount.Sign() < 0 {
			t.Errorf("%.300s: %v is below 0", what, amount)
		}
	}
	each := add(whole(1), rat(t, rate))
	cost, all := cash[0], new(big.Rat)
	for j, b := range bonds {
		cost = add(cost, mul(buy[j], rat(t, b.Price)))
		if pays := sum(rats(t, b.Pays), worth); pays.Cmp(rat(t, b.Price)) > 0 {
			t.Errorf("%.300s: bond %d pays what is worth %v", what, j, pays)
		}
	}
	for year := range debts {
		there := sub(mul(cash[year], each), due[year])
		for j, b := range bonds {
			there = add(there, mul(buy[j], rat(t, b.Pays[year])))
		}
		if there.Cmp(cash[year+1]) != 0 {
			t.Errorf("%.300s: behind the year %d there is %v, not %v", what, year, there, cash[year+1])
		}
		ahead := whole(1)
		if year > 0 {
			ahead = worth[year-1]
		}
		if mul(worth[year], each).Cmp(ahead) > 0 {
			t.Errorf("%.300s: cash grows to be worth more in the year %d", what, year)
		}
		all = add(all, mul(worth[year], due[year]))
	}
	if got := rat(t, p.Cost); cost.Cmp(got) != 0 || all.Cmp(got) != 0 {
		t.Errorf("%.300s: %v, but what is held costs %v, and debts are worth %v", what, got, cost, all)
	}
	return p
}

// sum is what amounts, each times another one, are together.
func sum(a, b []*big.Rat) *big.Rat {
	all := new(big.Rat)
	for i := range a {
		all = add(all, mul(a[i], b[i]))
	}
	return all
}

// 15.1: the document's example.
func TestExample(t *testing.T) {
	p := shows(t, bondsOf(t, "90: 100 0; 85: 0 100"), fracs(t, "50 100"), frac.Frac{})
	if got := fmt.Sprint(frac.Words(p.Buy), "; ", p.Cost.Text(), "; ", frac.Words(p.Worth), "; ", frac.Words(p.Cash)); got != "1/2 1; 130; 9/10 17/20; 0 0 0" {
		t.Error(got)
	}
}

// 15.1: by hand, where there is one plan alone, and one worth.
func TestByHand(t *testing.T) {
	for _, c := range []struct{ what, bonds, debts, rate, plan string }{
		{"cash alone", "", "21 441", "5%", "buy ; cash 420 420 0; 420; worth 20/21 400/441"},
		{"cash alone, without growth", "", "1 2 3", "0", "buy ; cash 6 5 3 0; 6; worth 1 1 1"},
		{"a bond that is too dear", "101: 100", "50", "0", "buy 0; cash 50 0; 50; worth 1"},
		{"a bond that pays nothing", "1: 0", "50", "0", "buy 0; cash 50 0; 50; worth 1"},
		{"a bond that is cheaper", "99: 100", "50", "0", "buy 1/2; cash 0 0; 99/2; worth 99/100"},
		{"a bond that is dearer by the rate", "99: 100", "50", "2%", "buy 0; cash 2500/51 0; 2500/51; worth 50/51"},
		{"what is paid ahead is kept", "90: 100 0", "0 100", "0", "buy 1; cash 0 100 0; 90; worth 9/10 9/10"},
		{"what is paid ahead grows", "90: 100 0", "0 105", "5%", "buy 1; cash 0 100 0; 90; worth 9/10 6/7"},
		{"what is paid too late does not help", "1: 0 100", "50 0", "0", "buy 0; cash 50 0 0; 50; worth 1 0"},
		{"what is left behind", "10: 100 100", "100 1", "0", "buy 1; cash 0 0 99; 10; worth 1/10 0"},
		{"coupons", "100: 10 110; 95: 100 0", "110 110", "0", "buy 1 1; cash 0 0 0; 195; worth 19/20 181/220"},
		{"two prices", "2: 1; 1/3: 1", "9", "0", "buy 0 9; cash 0 0; 3; worth 1/3"},
	} {
		p := shows(t, bondsOf(t, c.bonds), fracs(t, c.debts), one(t, c.rate))
		got := fmt.Sprintf("buy %s; cash %s; %s; worth %s", frac.Words(p.Buy), frac.Words(p.Cash), p.Cost.Text(), frac.Words(p.Worth))
		if got != c.plan {
			t.Errorf("%s: %s, not %s", c.what, got, c.plan)
		}
	}
}

// 15.1: where several plans, or several worths, do.
func TestSeveral(t *testing.T) {
	for _, c := range []struct{ bonds, debts, rate, cost string }{
		{"", "0", "0", "0"},
		{"", "0 0 0", "3", "0"},
		{"1: 1; 1: 1; 1: 1", "5", "0", "5"},
		{"1: 2; 1: 2; 2: 4", "5", "0", "5/2"},
		{"1: 1 0; 1: 0 1; 1: 1 1", "4 4", "0", "4"},
		{"1: 1 0; 1: 0 1; 2: 1 1", "4 4", "0", "8"},
		{"1: 0 1; 1: 1 0", "0 7", "0", "7"},
		{"1: 0 0; 2: 0 0", "3 4", "1", "5/2"},
		{"1: 0 0 0 0 0; 1/2: 0 0 0 0 1", "1 0 1 0 1", "0", "5/2"},
		{"1: 100 100 100", "1 2 3", "0", "1/50"},
		{"1: 100 100 100", "3 2 1", "0", "3/100"},
	} {
		if p := shows(t, bondsOf(t, c.bonds), fracs(t, c.debts), one(t, c.rate)); p.Cost.Text() != c.cost {
			t.Errorf("%s to pay %s at %s: %s, not %s", c.bonds, c.debts, c.rate, p.Cost.Text(), c.cost)
		}
	}
}

// 15.1: drawn bonds and debts, as many as may be, too; few digits, and many.
func TestDrawn(t *testing.T) {
	r := rand.New(rand.NewSource(1))
	bought, kept := 0, 0
	for i := range 1500 {
		years, n, digits := 1+r.Intn(4), r.Intn(5), 1+i%3
		if i%50 == 0 {
			years, n = most, most
		}
		if i%100 == 1 {
			digits = 30
		}
		bonds := drawnBonds(t, r, n, years, digits)
		var debts []frac.Frac
		for range years {
			debts = append(debts, drawn(t, r, digits))
		}
		rate := drawn(t, r, digits)
		if i%3 > 0 {
			rate = frac.Frac{}
		}
		p := shows(t, bonds, debts, rate)
		if slices.ContainsFunc(p.Buy, func(f frac.Frac) bool { return f.Sign() > 0 }) {
			bought++
		}
		if p.Cash[0].Sign() > 0 {
			kept++
		}
	}
	if bought < 300 || kept < 100 {
		t.Errorf("bonds are bought in %d, cash is held at first in %d", bought, kept)
	}
}

// 15.1: whole numbers with much in common: many plans cost the same, and steps that change nothing are taken.
func TestAlike(t *testing.T) {
	r := rand.New(rand.NewSource(2))
	for range 2000 {
		years := 1 + r.Intn(most)
		var bonds []match.Bond
		var debts []frac.Frac
		for range r.Intn(most + 1) {
			b := match.Bond{Price: frac.Whole(1 + r.Intn(2))}
			for range years {
				b.Pays = append(b.Pays, frac.Whole(r.Intn(2)))
			}
			bonds = append(bonds, b)
		}
		for range years {
			debts = append(debts, frac.Whole(r.Intn(2)))
		}
		shows(t, bonds, debts, frac.Whole(r.Intn(2)))
	}
}

// 15.1: the most bonds and debts, with the longest numbers of texts, each bond worth being bought.
func TestLong(t *testing.T) {
	r := rand.New(rand.NewSource(3))
	long := func(ahead string) frac.Frac {
		text := ahead
		for len(text) < api.MaxDigits {
			text += string(byte('0' + r.Intn(10)))
		}
		under := "700"
		for len(under) < api.MaxDigits {
			under += string(byte('0' + r.Intn(10)))
		}
		return one(t, text+"/"+under)
	}
	var bonds []match.Bond
	var debts []frac.Frac
	for j := range most {
		b := match.Bond{Price: long("500").Mul(frac.Whole(100 - 5*j))} // so that none is worth being kept for by cash
		for k := range most {
			p := long("100")
			if j == k {
				p = p.Mul(frac.Whole(1000))
			}
			b.Pays = append(b.Pays, p)
		}
		bonds = append(bonds, b)
		debts = append(debts, long("300"))
	}
	rate, err := long("100").Div(frac.Whole(100))
	if err != nil {
		t.Fatal(err)
	}
	p := shows(t, bonds, debts, rate)
	for j, f := range p.Buy {
		if f.Sign() == 0 {
			t.Errorf("nothing of the bond %d", j)
		}
	}
}

// 15.1: what may not be, in its order.
func TestErrors(t *testing.T) {
	many := strings.Repeat("1 ", most+1)
	for _, c := range []struct {
		what, bonds, debts, rate string
		e                        api.Errno
	}{
		{"no debts", "", "", "0", api.ErrLimit},
		{"no debts, but bonds", "1:", "", "0", api.ErrLimit},
		{"no debts, and all else amiss", "-1: -1", "", "-1", api.ErrLimit},
		{"a debt too many", "", many, "0", api.ErrLimit},
		{"a bond too many", strings.Repeat("1: 1;", most) + "1: 1", "1", "0", api.ErrLimit},
		{"a bond too many, and all else amiss", strings.Repeat("0: 1 1;", most) + "1: 1", "-1", "-1", api.ErrLimit},
		{"a bond pays too often", "1: 1 1", "1", "0", api.ErrForm},
		{"a bond pays too seldom", "1: 1", "1 1", "0", api.ErrForm},
		{"a bond pays never", "1:", "1", "0", api.ErrForm},
		{"a price of 0, and it pays too seldom", "0: 1", "1 1", "0", api.ErrForm},
		{"it pays too often, and less than 0", "1: -1 1", "1", "0", api.ErrForm},
		{"the second one pays too often", "1: 1; 1: 1 1", "1", "0", api.ErrForm},
		{"a price of 0, ahead of one that pays too often", "0: 1; 1: 1 1", "1", "0", api.ErrArg},
		{"a payment below 0, ahead of one that pays too often", "1: -1; 1: 1 1", "1", "0", api.ErrArg},
		{"a price of 0", "0: 1", "1", "0", api.ErrArg},
		{"a price below 0", "-1/1000: 1", "1", "0", api.ErrArg},
		{"the last price is 0", strings.Repeat("1: 1;", most-1) + "0: 1", "1", "0", api.ErrArg},
		{"the first payment is below 0", "1: -1 1", "1 1", "0", api.ErrArg},
		{"the last payment is below 0", "1: 1 -1/9999", "1 1", "0", api.ErrArg},
		{"the first debt is below 0", "", "-1 1", "0", api.ErrArg},
		{"the last debt is below 0", "1: 1 1", "1 -1/9999", "0", api.ErrArg},
		{"a debt is below 0, and a bond pays too often", "1: 1 1", "-1", "0", api.ErrForm},
		{"the rate is below 0", "", "1", "-1/1000000", api.ErrArg},
		{"the rate is -1", "1: 1", "1", "-1", api.ErrArg},
		{"the rate is below -1", "1: 1", "1", "-2", api.ErrArg},
		{"the rate is below 0, and a bond pays too often", "1: 1 1", "1", "-1", api.ErrForm},
	} {
		p, err := match.Cheapest(bondsOf(t, c.bonds), fracs(t, c.debts), one(t, c.rate))
		wantError(t, c.what, err, c.e, p)
	}
}

// P4: nothing that is handed in is written into, nor what stands behind it; no two lists of a plan share memory, nor does one have room in another; each call tells the same.
func TestMemory(t *testing.T) {
	bonds := bondsOf(t, "90: 100 0 7; 85: 0 100 7; 7: 7 7 7; 8: 8")
	debts := fracs(t, "50 100 7")
	for i := range bonds[:3] {
		bonds[i].Pays = bonds[i].Pays[:2]
	}
	behind := func() string {
		text := written(bonds) + frac.Words(debts)
		for _, b := range bonds[:3] {
			text += " " + frac.Words(b.Pays[:3])
		}
		return text
	}
	wanted := behind()
	told := ""
	for range 2 {
		p, err := match.Cheapest(bonds[:2], debts[:2], frac.Frac{})
		if err != nil {
			t.Fatal(err)
		}
		if behind() != wanted {
			t.Fatalf("what was handed in is %s, not %s", behind(), wanted)
		}
		lists := [][]frac.Frac{p.Buy, p.Cash, p.Worth}
		text := frac.Words(slices.Concat(lists...))
		if told != "" && text != told {
			t.Errorf("told anew: %s, not %s", text, told)
		}
		told = text
		var texts []string
		for _, l := range lists {
			texts = append(texts, frac.Words(l))
		}
		for i := range lists {
			_ = append(lists[i], frac.Whole(-1), frac.Whole(-1))
			for k := range lists {
				if frac.Words(lists[k]) != texts[k] {
					t.Error("a list has room in another one")
				}
			}
		}
		for i := range lists {
			for k := range lists[i] {
				lists[i][k] = frac.Whole(-1)
			}
			for k := i + 1; k < len(lists); k++ {
				if frac.Words(lists[k]) != texts[k] {
					t.Error("two lists share memory")
				}
			}
		}
	}
}
