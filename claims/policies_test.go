package claims_test

import (
	"fmt"
	"iter"
	"math/rand"
	"slices"
	"testing"

	"tontine/api"
	"tontine/claims"
	"tontine/frac"
)

// bothWays are the two calls that tell the same.
func bothWays() iter.Seq2[string, func([]claims.Policy, int) ([]frac.Frac, error)] {
	return func(yield func(string, func([]claims.Policy, int) ([]frac.Frac, error)) bool) {
		_ = yield("Single", claims.Single) && yield("Pril", claims.Pril)
	}
}

// 7.5: by hand.
func TestPoliciesByHand(t *testing.T) {
	third, half := one(t, "1/3"), one(t, "1/2")
	for _, s := range []struct {
		l    []claims.Policy
		upTo int
		text string
	}{
		{nil, 0, "1"}, {nil, 3, "1 0 0 0"}, {[]claims.Policy{}, 1, "1 0"},
		{[]claims.Policy{{third, 0}}, 2, "1 0 0"},
		{[]claims.Policy{{third, 2}}, 0, "2/3"}, {[]claims.Policy{{third, 2}}, 1, "2/3 0"}, {[]claims.Policy{{third, 2}}, 4, "2/3 0 1/3 0 0"},
		{[]claims.Policy{{third, 1}, {half, 1}}, 3, "1/3 1/2 1/6 0"},
		{[]claims.Policy{{third, 1}, {half, 0}, {half, 1}}, 3, "1/3 1/2 1/6 0"},
		{[]claims.Policy{{half, 3}, {third, 1}}, 4, "1/3 1/6 0 1/3 1/6"},
		{[]claims.Policy{{half, 3}, {third, api.MaxSize}}, 4, "1/3 0 0 1/3 0"},
		{[]claims.Policy{{frac.Frac{}, 1}, {frac.Frac{}, 2}}, 3, "1 0 0 0"},
		{[]claims.Policy{{frac.Frac{}, 0}}, 1, "1 0"},
	} {
		for what, call := range bothWays() {
			l, err := call(s.l, s.upTo)
			wantRow(t, fmt.Sprint(what, " ", len(s.l), " up to ", s.upTo), l, err, s.text)
		}
	}
}

// 7.5: errors, in their order: policy by policy.
func TestPolicyErrors(t *testing.T) {
	good := claims.Policy{Chance: one(t, "1/2"), Amount: 1}
	sure := claims.Policy{Chance: frac.Whole(1), Amount: 1}
	below := claims.Policy{Chance: one(t, "-1/1000000000000000000000000000000"), Amount: 1}
	far := claims.Policy{Chance: one(t, "1/2"), Amount: api.MaxSize + 1}
	near := claims.Policy{Chance: one(t, "1/2"), Amount: -1}
	both := claims.Policy{Chance: frac.Whole(2), Amount: -1}
	for _, s := range []struct {
		what string
		l    []claims.Policy
		upTo int
		e    api.Errno
	}{
		{"too many", slices.Repeat([]claims.Policy{good}, api.MaxSize+1), 1, api.ErrLimit},
		{"too many that are sure", slices.Repeat([]claims.Policy{sure}, api.MaxSize+1), -1, api.ErrLimit},
		{"too many that are far", slices.Repeat([]claims.Policy{far}, 10000), 1, api.ErrLimit},
		{"sure", []claims.Policy{sure}, 1, api.ErrArg},
		{"sure of nothing", []claims.Policy{{Chance: frac.Whole(1)}}, 1, api.ErrArg},
		{"below 0", []claims.Policy{good, below}, 1, api.ErrArg},
		{"far above 1", []claims.Policy{good, {Chance: frac.Whole(greatestInt), Amount: 1}}, 1, api.ErrArg},
		{"too great", []claims.Policy{far}, 1, api.ErrRange},
		{"below nothing", []claims.Policy{good, near}, 1, api.ErrRange},
		{"the least amount", []claims.Policy{good, {Chance: good.Chance, Amount: leastInt}}, 1, api.ErrRange},
		{"the greatest amount", []claims.Policy{good, {Chance: good.Chance, Amount: greatestInt}}, 1, api.ErrRange},
		{"both", []claims.Policy{good, both}, 1, api.ErrArg},
		{"first sure, then too great", []claims.Policy{sure, far}, 1, api.ErrArg},
		{"first too great, then sure", []claims.Policy{far, sure}, 1, api.ErrRange},
		{"sure, no amount", []claims.Policy{good, sure}, -1, api.ErrArg},
		{"up to below 0", []claims.Policy{good}, -1, api.ErrRange},
		{"up to too much", []claims.Policy{good}, api.MaxSize + 1, api.ErrRange},
		{"no policies, up to below 0", nil, -1, api.ErrRange},
		{"up to the least", nil, leastInt, api.ErrRange},
		{"up to the greatest", []claims.Policy{good}, greatestInt, api.ErrRange},
	} {
		for what, call := range bothWays() {
			l, err := call(s.l, s.upTo)
			wantError(t, what+", "+s.what, err, s.e, l)
		}
	}
}

// 7.5: against all ways in which policies may have claims.
func TestPoliciesAllWays(t *testing.T) {
	r := rand.New(rand.NewSource(78))
	for range 200 {
		var l []claims.Policy
		all := nothing()
		for range r.Intn(9) {
			p := claims.Policy{Chance: drawnChance(r), Amount: r.Intn(7)}
			l = append(l, p)
			all = both(all, []way{{0, rat(frac.Whole(1).Sub(p.Chance))}, {p.Amount, rat(p.Chance)}})
		}
		upTo := r.Intn(30)
		for what, call := range bothWays() {
			chances, err := call(l, upTo)
			wantRats(t, fmt.Sprint(what, " ", len(l), " up to ", upTo), chances, err, row(all, upTo))
		}
	}
}

// 7.5: both tell the same of as many policies as there may be, with amounts up to the greatest one, and numbers of many digits.
func TestPoliciesMost(t *testing.T) {
	r := rand.New(rand.NewSource(79))
	for _, s := range []struct{ digits, greatest, policies int }{{3, api.MaxSize, api.MaxSize}, {2, 9, api.MaxSize}, {api.MaxDigits, 12, 60}} {
		var l []claims.Policy
		for range s.policies {
			chance := one(t, drawnDigits(r, s.digits-1)+"/"+drawnDigits(r, s.digits))
			l = append(l, claims.Policy{Chance: chance, Amount: r.Intn(s.greatest + 1)})
		}
		l[0].Amount = s.greatest
		single, err := claims.Single(l, api.MaxSize)
		if err != nil || len(single) != api.MaxSize+1 {
			t.Fatalf("Single: %d numbers, %v", len(single), err)
		}
		pril, err := claims.Pril(l, api.MaxSize)
		wantRow(t, fmt.Sprint("Pril ", s), pril, err, frac.Words(single))
	}
	l := slices.Repeat([]claims.Policy{{one(t, "1/2"), 1}}, api.MaxSize)
	for what, call := range bothWays() {
		chances, err := call(l, api.MaxSize)
		wantRats(t, what, chances, err, binomials(api.MaxSize))
	}
}
