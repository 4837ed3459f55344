package treaty_test

import (
	"math/big"
	"math/rand"
	"reflect"
	"slices"
	"strings"
	"testing"

	"tontine/api"
	"tontine/treaty"
)

// bears fails unless it is borne so: of each claim the shares and what is left, what the stops bear, the premiums, and what is left of all.
func bears(t *testing.T, what string, l []treaty.Line, claims []treaty.Claim, paid [][]int, stops, premiums []int, net int) {
	t.Helper()
	got, err := treaty.Apply(l, claims)
	if err != nil {
		t.Errorf("%s: %v", what, err)
	}
	wanted := treaty.Result{Stops: stops, Premiums: premiums, Net: net}
	for _, p := range paid {
		wanted.Claims = append(wanted.Claims, treaty.Paid{Shares: p[:len(p)-1], Net: p[len(p)-1]})
	}
	if !alike(got, wanted) {
		t.Errorf("%s: %v, not %v", what, got, wanted)
	}
}

// alike tells whether results tell the same (an empty list may be nil or not).
func alike(a, b treaty.Result) bool {
	return slices.Equal(a.Stops, b.Stops) && slices.Equal(a.Premiums, b.Premiums) && a.Net == b.Net &&
		slices.EqualFunc(a.Claims, b.Claims, func(x, y treaty.Paid) bool {
			return slices.Equal(x.Shares, y.Shares) && x.Net == y.Net
		})
}

// 13.2: the document's example.
func TestExample(t *testing.T) {
	l := []treaty.Line{cede(t, "30%", "a"), excess(50, 100, 1, 10, "b"), stop(60, 100, "c")}
	claims := []treaty.Claim{{Sum: 1000, Amount: 100}, {Sum: 1000, Amount: 300}}
	bears(t, "the example", l, claims, [][]int{{30, 20, 0, 50}, {90, 100, 0, 110}}, []int{0, 0, 100}, []int{0, 10, 0}, 60)
}

// 13.2: without lines, without claims, without both.
func TestNothing(t *testing.T) {
	bears(t, "nothing", nil, nil, nil, nil, nil, 0)
	bears(t, "no line", nil, []treaty.Claim{{Sum: 9, Amount: 7}, {Sum: 9, Amount: 9}}, [][]int{{7}, {9}}, nil, nil, 16)
	l := []treaty.Line{cede(t, "1", "a"), surplus(1, 1, "a"), excess(0, 1, 1, 1, "a"), stop(0, 1, "a")}
	bears(t, "no claim", l, nil, nil, make([]int, 4), make([]int, 4), 0)
	bears(t, "a claim of nothing", l, []treaty.Claim{{Sum: 9}}, [][]int{{0, 0, 0, 0, 0}}, make([]int, 4), make([]int, 4), 0)
}

// 13.2: a share is of what is left, and is rounded down.
func TestCede(t *testing.T) {
	l := []treaty.Line{cede(t, "1/2", "a"), cede(t, "1/3", "b"), cede(t, "0", "c")}
	claims := []treaty.Claim{{Sum: 99, Amount: 1}, {Sum: 99, Amount: 7}, {Sum: 99, Amount: 99}}
	bears(t, "shares", l, claims, [][]int{{0, 0, 0, 1}, {3, 1, 0, 3}, {49, 16, 0, 34}}, make([]int, 3), make([]int, 3), 38)
	all := []treaty.Line{cede(t, "1", "a"), cede(t, "1", "b")}
	bears(t, "all", all, claims[1:], [][]int{{7, 0, 0}, {99, 0, 0}}, make([]int, 2), make([]int, 2), 0)
	nearly := []treaty.Line{cede(t, strings.Repeat("9", 59)+"/1"+strings.Repeat("0", 59), "a")}
	most := []treaty.Claim{{Sum: mostMoney, Amount: mostMoney}}
	bears(t, "nearly all", nearly, most, [][]int{{mostMoney - 1, 1}}, make([]int, 1), make([]int, 1), 1)
}

// 13.2: a surplus bears the part of the risk that is above its limit, so many limits at most; nothing of a risk that is not above it.
func TestSurplus(t *testing.T) {
	claims := []treaty.Claim{{Sum: 99, Amount: 99}, {Sum: 100, Amount: 100}, {Sum: 101, Amount: 100}, {Sum: 101, Amount: 101}, {Sum: 300, Amount: 100}, {Sum: 300, Amount: 299}, {Sum: 301, Amount: 301}, {Sum: 900, Amount: 100}}
	paid := [][]int{{0, 99}, {0, 100}, {0, 100}, {1, 100}, {66, 34}, {199, 100}, {200, 101}, {22, 78}}
	bears(t, "two limits", []treaty.Line{surplus(100, 2, "a")}, claims, paid, []int{0}, []int{0}, 712)
	bears(t, "no limits", []treaty.Line{surplus(100, 0, "a")}, claims[4:5], [][]int{{0, 100}}, []int{0}, []int{0}, 100)
	two := []treaty.Line{cede(t, "1/2", "a"), surplus(100, 1, "b"), surplus(200, 9, "c")}
	bears(t, "of what is left, by the sum", two, []treaty.Claim{{Sum: 400, Amount: 100}}, [][]int{{50, 12, 19, 19}}, make([]int, 3), make([]int, 3), 19)
	great := []treaty.Line{surplus(mostMoney-1, mostTimes, "a"), surplus(1, mostTimes, "b"), surplus(10_000_000_000, mostTimes, "c")}
	most := []treaty.Claim{{Sum: mostMoney, Amount: mostMoney}}
	bears(t, "the greatest", great, most, [][]int{{1, 99, 989_999_999_901, 9_999_999_999}}, make([]int, 3), make([]int, 3), 9_999_999_999)
}

// 13.2: an excess bears what is above From, Limit at most, until its limits are used up by the claims ahead.
func TestExcess(t *testing.T) {
	of := func(amounts ...int) (l []treaty.Claim) {
		for _, n := range amounts {
			l = append(l, treaty.Claim{Sum: 1000, Amount: n})
		}
		return l
	}
	once := []treaty.Line{excess(50, 100, 0, 7, "a")}
	bears(t, "once", once, of(50, 51, 49, 0, 149, 60, 1000), [][]int{{0, 50}, {1, 50}, {0, 49}, {0, 0}, {99, 50}, {0, 60}, {0, 1000}}, []int{0}, []int{0}, 1259)
	again := []treaty.Line{excess(50, 100, 2, 10, "a")}
	bears(t, "again", again, of(160, 150, 130, 200, 200), [][]int{{100, 60}, {100, 50}, {80, 50}, {20, 180}, {0, 200}}, []int{0}, []int{20}, 540)
	above := []treaty.Line{excess(50, 100, 0, 0, "a"), excess(50, 30, 9, 3, "b")}
	bears(t, "of what is left", above, of(200, 200), [][]int{{100, 30, 70}, {0, 30, 170}}, []int{0, 0}, []int{0, 6}, 240)
	from := []treaty.Line{excess(0, 1, mostTimes, 0, "a")}
	bears(t, "from the first on", from, of(1, 0, 5), [][]int{{1, 0}, {0, 0}, {1, 4}}, []int{0}, []int{0}, 4)
}

// 13.2: what it costs to have the limit anew is by what was borne, as often as it is had anew at most, and is rounded to the nearest, of two to the even one.
func TestPremiums(t *testing.T) {
	for _, c := range []struct{ limit, times, price, borne, want int }{
		{2, 1, 5, 1, 2}, {2, 1, 7, 1, 4}, {2, 1, 1, 1, 0}, {2, 1, 3, 1, 2}, {2, 1, 5, 2, 5}, {2, 1, 5, 3, 5}, {2, 1, 5, 4, 5},
		{3, 2, 10, 1, 3}, {3, 2, 10, 2, 7}, {3, 2, 10, 6, 20}, {3, 2, 10, 9, 20}, {3, 0, 10, 3, 0}, {3, 2, 0, 9, 0},
		{4, 100, 2, 3, 2}, {4, 100, 2, 1, 0}, {4, 100, 2, 5, 2}, {4, 100, 2, 7, 4},
	} {
		l := []treaty.Line{cede(t, "0", "b"), excess(0, c.limit, c.times, c.price, "a")}
		claims := make([]treaty.Claim, c.borne) // ones, so that none is beyond the limit
		for i := range claims {
			claims[i] = treaty.Claim{Sum: 1, Amount: 1}
		}
		result, err := treaty.Apply(l, claims)
		if err != nil || !slices.Equal(result.Premiums, []int{0, c.want}) || result.Net != 0 {
			t.Errorf("%v: %v %v", c, result, err)
		}
	}
	l := []treaty.Line{excess(0, mostMoney, mostTimes, mostMoney, "a")}
	claims := slices.Repeat([]treaty.Claim{{Sum: mostMoney, Amount: mostMoney}}, 102)
	result, err := treaty.Apply(l, claims)
	if err != nil || result.Premiums[0] != 100*mostMoney || result.Net != mostMoney {
		t.Errorf("the most: %v %v %v", result.Premiums, result.Net, err)
	}
}

// 13.2: stops bear of all, in order, behind all claims.
func TestStops(t *testing.T) {
	claims := []treaty.Claim{{Sum: 100, Amount: 100}, {Sum: 100, Amount: 50}}
	for _, c := range []struct {
		what  string
		l     []treaty.Line
		stops []int
		net   int
	}{
		{"above", []treaty.Line{stop(60, 100, "a")}, []int{90}, 60},
		{"at most", []treaty.Line{stop(60, 80, "a")}, []int{80}, 70},
		{"not above", []treaty.Line{stop(150, 80, "a")}, []int{0}, 150},
		{"without a limit", []treaty.Line{stop(0, 0, "a")}, []int{0}, 150},
		{"one behind the other", []treaty.Line{stop(60, 50, "a"), stop(70, 100, "b"), stop(60, 100, "c"), stop(0, 7, "d")}, []int{50, 30, 10, 7}, 53},
	} {
		paid := [][]int{append(make([]int, len(c.l)), 100), append(make([]int, len(c.l)), 50)}
		bears(t, c.what, c.l, claims, paid, c.stops, make([]int, len(c.l)), c.net)
	}
}

// 13.2: claims that may not be: too many, then one by one.
func TestAmissClaims(t *testing.T) {
	l := []treaty.Line{cede(t, "1/2", "a")}
	good := treaty.Claim{Sum: 10, Amount: 10}
	for _, c := range []treaty.Claim{
		{}, {Sum: 0, Amount: 0}, {Sum: -1, Amount: -1}, {Sum: mostMoney + 1, Amount: 1}, {Sum: 10, Amount: 11}, {Sum: 10, Amount: -1},
		{Sum: leastInt, Amount: leastInt}, {Sum: greatestInt, Amount: greatestInt}, {Sum: 10, Amount: greatestInt}, {Sum: 10, Amount: leastInt},
	} {
		for _, claims := range [][]treaty.Claim{{c}, {good, good, c}, append(make([]treaty.Claim, api.MaxText-1), c)} {
			result, err := treaty.Apply(l, claims)
			wantError(t, "a claim", err, api.ErrRange, result)
		}
	}
	for _, claims := range [][]treaty.Claim{slices.Repeat([]treaty.Claim{good}, api.MaxText+1), make([]treaty.Claim, api.MaxText+1)} {
		result, err := treaty.Apply(nil, claims)
		wantError(t, "too many claims", err, api.ErrLimit, result)
	}
}

// 13.2: as many claims as there may be, of the most, with as many lines.
func TestMost(t *testing.T) {
	claims := slices.Repeat([]treaty.Claim{{Sum: mostMoney, Amount: mostMoney}}, api.MaxText)
	result, err := treaty.Apply(nil, claims)
	if err != nil || result.Net != mostMoney*api.MaxText || len(result.Claims) != api.MaxText {
		t.Errorf("%d of %d claims, %v", result.Net, len(result.Claims), err)
	}
	var l []treaty.Line
	for i := range api.MaxRows {
		switch i % 3 {
		case 0:
			l = append(l, cede(t, "1/1"+strings.Repeat("0", 58)+"1", "a"))
		case 1:
			l = append(l, surplus(mostMoney-7, mostTimes, "b"))
		default:
			l = append(l, excess(mostMoney/2, 1, mostTimes, mostMoney, "c"))
		}
	}
	result, err = treaty.Apply(l, claims)
	if err != nil {
		t.Fatal(err)
	}
	wantNothingLost(t, claims, result)
}

// wantNothingLost fails unless all bear each claim together, and all of them.
func wantNothingLost(t *testing.T, claims []treaty.Claim, r treaty.Result) {
	t.Helper()
	left := 0
	for i, p := range r.Claims {
		all := p.Net
		for _, n := range p.Shares {
			all += n
			if n < 0 {
				t.Fatalf("%d is borne", n)
			}
		}
		if all != claims[i].Amount || p.Net < 0 {
			t.Fatalf("of %v is borne %d, left %d", claims[i], all, p.Net)
		}
		left += p.Net
	}
	all := r.Net
	for _, n := range r.Stops {
		all += n
	}
	if all != left || r.Net < 0 {
		t.Fatalf("of %d is borne by stops and left %d", left, all)
	}
}

// down is a number as the library has it, rounded down.
func down(r *big.Rat) int {
	return int(new(big.Int).Div(r.Num(), r.Denom()).Int64()) // Div rounds down, the lower number being above 0
}

// nearest is the nearest whole number, of two the even one.
func nearest(r *big.Rat) int {
	low := down(r)
	rest := new(big.Rat).Sub(r, big.NewRat(int64(low), 1))
	order := rest.Cmp(big.NewRat(1, 2))
	if order > 0 || order == 0 && low%2 == 1 {
		low++
	}
	return low
}

// literal tells who bears what by the document's words.
func literal(l []treaty.Line, claims []treaty.Claim) treaty.Result {
	whole := func(n int) *big.Rat { return new(big.Rat).SetInt64(int64(n)) }
	out := treaty.Result{Stops: make([]int, len(l)), Premiums: make([]int, len(l))}
	ahead := make([]int, len(l))
	for _, c := range claims {
		p := treaty.Paid{Net: c.Amount}
		for i, x := range l {
			n := 0
			switch x.Kind {
			case treaty.Cede:
				share, _ := new(big.Rat).SetString(x.Share.Text())
				n = down(share.Mul(share, whole(p.Net)))
			case treaty.Surplus:
				if c.Sum > x.Limit {
					lesser := whole(min(c.Sum-x.Limit, x.Limit*x.Times))
					n = down(lesser.Mul(lesser.Quo(lesser, whole(c.Sum)), whole(p.Net)))
				}
			case treaty.Excess:
				if p.Net > x.From {
					n = min(p.Net-x.From, x.Limit, x.Limit*(x.Times+1)-ahead[i])
				}
			}
			ahead[i] += n
			p.Net -= n
			p.Shares = append(p.Shares, n)
		}
		out.Claims = append(out.Claims, p)
		out.Net += p.Net
	}
	for i, x := range l {
		if x.Kind == treaty.Stop && out.Net > x.From {
			out.Stops[i] = min(out.Net-x.From, x.Limit)
			out.Net -= out.Stops[i]
		}
		if x.Kind == treaty.Excess {
			price := whole(min(ahead[i], x.Limit*x.Times))
			out.Premiums[i] = nearest(price.Quo(price.Mul(price, whole(x.Price)), whole(x.Limit)))
		}
	}
	return out
}

// 13.2: drawn treaties and claims, small and great, by the document's words; nothing is lost.
func TestDrawn(t *testing.T) {
	r := rand.New(rand.NewSource(13))
	for _, great := range []int{3, 10, 100, 1000, 1_000_000, mostMoney / 3} {
		for range 400 {
			l, claims := drawnTreaty(r, great), drawnClaims(r, great)
			got, err := treaty.Apply(l, claims)
			if err != nil {
				t.Fatalf("%s: %v", written(l), err)
			}
			if wanted := literal(l, claims); !alike(got, wanted) {
				t.Fatalf("%s%v: %v, not %v", written(l), claims, got, wanted)
			}
			wantNothingLost(t, claims, got)
		}
	}
}

// P4: nothing that is handed in is written into, nor what stands behind it; no two lists of a result share memory; each call tells the same.
func TestMemory(t *testing.T) {
	l := []treaty.Line{cede(t, "30%", "a"), excess(50, 100, 1, 10, "b"), stop(60, 100, "c"), {Kind: 7}}
	claims := []treaty.Claim{{Sum: 1000, Amount: 100}, {Sum: 1000, Amount: 300}, {Sum: 5, Amount: 9}}
	lines, told := written(l), slices.Clone(claims)
	result, err := treaty.Apply(l[:3], claims[:2])
	if err != nil {
		t.Fatal(err)
	}
	if written(l) != lines || !slices.Equal(claims, told) {
		t.Error("what was handed in is another")
	}
	lists := [][]int{result.Stops, result.Premiums, result.Claims[0].Shares, result.Claims[1].Shares}
	var wanted [][]int
	for _, list := range lists {
		wanted = append(wanted, slices.Clone(list))
	}
	for i := range lists {
		longer := append(lists[i], -1)
		for j := range longer {
			longer[j] = -1
		}
		for j := range lists[i] {
			lists[i][j] = -1
		}
		for k := i + 1; k < len(lists); k++ {
			if !slices.Equal(lists[k], wanted[k]) {
				t.Error("two lists share memory")
			}
		}
	}
	again, err := treaty.Apply(l[:3], claims[:2])
	if err != nil || !reflect.DeepEqual([][]int{again.Stops, again.Premiums, again.Claims[0].Shares, again.Claims[1].Shares}, wanted) {
		t.Errorf("told anew: %v %v", again, err)
	}
}
