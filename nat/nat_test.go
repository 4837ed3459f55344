package nat

import (
	"math/big"
	"math/rand"
	"slices"
	"testing"
)

// toBig is a number as the library has it.
func toBig(x Nat) *big.Int {
	out := new(big.Int)
	for i := len(x) - 1; i >= 0; i-- {
		out.Lsh(out, wordBits)
		out.Or(out, new(big.Int).SetUint64(x[i]))
	}
	return out
}

// fromBig is the library's number.
func fromBig(n *big.Int) Nat {
	var out []uint64
	rest, mask := new(big.Int).Set(n), new(big.Int).SetUint64(^uint64(0))
	for rest.Sign() > 0 {
		out = append(out, new(big.Int).And(rest, mask).Uint64())
		rest.Rsh(rest, wordBits)
	}
	return trimmed(out)
}

// drawn is a number of so many words: of words by chance, or such that carry and borrow far.
func drawn(r *rand.Rand, words int) Nat {
	out := make([]uint64, words)
	kind := r.Intn(4)
	for i := range out {
		switch {
		case kind == 0 || kind == 1 && r.Intn(3) == 0:
			out[i] = r.Uint64()
		case kind < 3 && r.Intn(2) == 0:
			out[i] = ^uint64(0)
		case kind == 3 && r.Intn(8) == 0:
			out[i] = 1 << r.Intn(wordBits)
		}
	}
	return trimmed(out)
}

// sizes are how many words numbers of the tests have: about each bound at which the way changes.
func sizes() []int {
	return []int{0, 1, 2, 3, 4, 7, schoolMost - 1, schoolMost, schoolMost + 1, longMost, longMost + 1, 2*schoolMost + 3, 2*longMost + 1, 3*longMost + 2, 5*longMost + 7}
}

// same fails unless a number is the library's, in the one form that it may have.
func same(t *testing.T, what string, got Nat, want *big.Int) {
	t.Helper()
	if toBig(got).Cmp(want) != 0 {
		t.Fatalf("%s: %x, not %x", what, toBig(got), want)
	}
	if n := len(got); n > 0 && got[n-1] == 0 || n == 0 && got != nil {
		t.Fatalf("%s: a second form of %x", what, want)
	}
}

// overPairs asks of numbers of all sizes, and fails if one of them was written into.
func overPairs(t *testing.T, ask func(r *rand.Rand, x, y Nat)) {
	t.Helper()
	r := rand.New(rand.NewSource(7))
	for _, n := range sizes() {
		for _, m := range sizes() {
			for range 3 {
				x, y := drawn(r, n), drawn(r, m)
				keepX, keepY := slices.Clone(x), slices.Clone(y)
				ask(r, x, y)
				if !slices.Equal(x, keepX) || !slices.Equal(y, keepY) {
					t.Fatalf("%d and %d words: an argument was written into", n, m)
				}
			}
		}
	}
}

func TestSumsAndOrder(t *testing.T) {
	overPairs(t, func(r *rand.Rand, x, y Nat) {
		a, b := toBig(x), toBig(y)
		if x.Cmp(y) != a.Cmp(b) {
			t.Fatalf("%x and %x: order %d", a, b, x.Cmp(y))
		}
		sum := x.Add(y)
		same(t, "sum", sum, new(big.Int).Add(a, b))
		same(t, "difference", sum.Sub(y), a)
		same(t, "nothing", x.Sub(x), new(big.Int))
	})
}

func TestProducts(t *testing.T) {
	overPairs(t, func(r *rand.Rand, x, y Nat) {
		same(t, "product", x.Mul(y), new(big.Int).Mul(toBig(x), toBig(y)))
	})
	for n := range 40 {
		x := Nat{12345, 67, 1 << 63}
		same(t, "power", x.Pow(n), new(big.Int).Exp(toBig(x), big.NewInt(int64(n)), nil))
	}
	same(t, "power of nothing", Nat(nil).Pow(0), big.NewInt(1))
	same(t, "power of nothing", Nat(nil).Pow(3), new(big.Int))
}

func TestQuotients(t *testing.T) {
	overPairs(t, func(r *rand.Rand, x, y Nat) {
		if len(y) == 0 {
			return
		}
		b := toBig(y)
		near := x.Mul(y) // and about a multiple, where guesses are the worst
		for _, n := range []Nat{x, near, near.Add(y.Sub(Of(1))), near.Add(y)} {
			wantQuo, wantRem := new(big.Int).QuoRem(toBig(n), b, new(big.Int))
			quo, rem := n.QuoRem(y)
			same(t, "quotient", quo, wantQuo)
			same(t, "rest", rem, wantRem)
			same(t, "quotient alone", n.Quo(y), wantQuo)
		}
	})
}

// TestQuotientMended: the words of x begin as those of y do, so that the first guess is too great by as much as it can be.
func TestQuotientMended(t *testing.T) {
	top := uint64(1) << 63
	for _, low := range []uint64{0, 1, ^uint64(0)} {
		for _, mid := range []uint64{0, 1, top, ^uint64(0)} {
			y := Nat{low, mid, top}
			for _, x := range []Nat{{0, 0, 0, top}, {low, low, mid, top}, {^uint64(0), ^uint64(0), mid, top}, {0, 0, 0, 0, top - 1, top}} {
				wantQuo, wantRem := new(big.Int).QuoRem(toBig(x), toBig(y), new(big.Int))
				quo, rem := x.QuoRem(y)
				same(t, "quotient", quo, wantQuo)
				same(t, "rest", rem, wantRem)
			}
		}
	}
}

func TestGcd(t *testing.T) {
	overPairs(t, func(r *rand.Rand, x, y Nat) {
		a, b := toBig(x), toBig(y)
		same(t, "divisor", Gcd(x, y), new(big.Int).GCD(nil, nil, a, b))
		z := drawn(r, 1+r.Intn(5))
		p, q := x.Mul(z), y.Mul(z)
		keepP, keepQ := slices.Clone(p), slices.Clone(q)
		same(t, "common divisor", Gcd(p, q), new(big.Int).GCD(nil, nil, toBig(p), toBig(q)))
		if !slices.Equal(p, keepP) || !slices.Equal(q, keepQ) {
			t.Fatal("an argument was written into")
		}
	})
}

// TestGcdSlow: Fibonacci's numbers take the most steps, all with the quotient 1.
func TestGcdSlow(t *testing.T) {
	x, y := Of(1), Of(1)
	for range 2000 {
		x, y = x.Add(y), x
		same(t, "divisor", Gcd(x, y), big.NewInt(1))
	}
	three := Of(3).Pow(50)
	same(t, "divisor", Gcd(x.Mul(three), y.Mul(three)), toBig(three))
}

func TestTexts(t *testing.T) {
	r := rand.New(rand.NewSource(5))
	for _, n := range append(sizes(), 1000, 2000) {
		for range 5 {
			x := drawn(r, n)
			want := toBig(x).String()
			if x.Text() != want {
				t.Fatalf("%d words: %s, not %s", n, x.Text(), want)
			}
			same(t, "read again", Read(want), toBig(x))
			same(t, "noughts ahead", Read("000"+want), toBig(x))
		}
	}
	for n := range 3000 { // noughts within, and at each bound
		power := new(big.Int).Exp(big.NewInt(10), big.NewInt(int64(n)), nil)
		for _, more := range []int64{-1, 0, 1} {
			want := new(big.Int).Add(power, big.NewInt(more))
			if got := fromBig(want).Text(); got != want.String() {
				t.Fatalf("10^%d + %d: %s", n, more, got)
			}
		}
	}
}

func TestProductsCompared(t *testing.T) {
	overPairs(t, func(r *rand.Rand, x, y Nat) {
		z := drawn(r, 1+r.Intn(4))
		one := Of(1)
		for _, l := range [][4]Nat{{x, y, y, x}, {x, y.Add(one), y, x}, {x, y, z, x}, {x, z, z.Mul(x), one}, {x, z, z.Mul(x).Add(one), one}, {x.Add(one), y.Add(one), x, y}} {
			want := toBig(l[0].Mul(l[1])).Cmp(toBig(l[2].Mul(l[3])))
			if got := CmpProducts(l[0], l[1], l[2], l[3]); got != want {
				t.Fatalf("%x: %d, not %d", l, got, want)
			}
			if got := CmpProducts(l[2], l[3], l[0], l[1]); got != -want {
				t.Fatalf("%x turned: %d, not %d", l, got, -want)
			}
		}
	})
}

func TestWords(t *testing.T) {
	for _, n := range []uint64{0, 1, 2, ^uint64(0)} {
		if got, ok := Of(n).Word(); got != n || !ok {
			t.Errorf("word %d: %d, %v", n, got, ok)
		}
		if Of(n).One() != (n == 1) || Of(n).Odd() != (n%2 == 1) {
			t.Errorf("%d: one %v, odd %v", n, Of(n).One(), Of(n).Odd())
		}
	}
	long := Nat{1, 1}
	if n, ok := long.Word(); n != 0 || ok || long.One() || !long.Odd() {
		t.Errorf("two words: %d, %v, one %v, odd %v", n, ok, long.One(), long.Odd())
	}
}
