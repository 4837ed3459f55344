package flow

import (
	"math/rand"
	"strings"
	"testing"

	"tontine/frac"
)

// read is a polynomial of a text, from the lowest power on.
func read(t *testing.T, text string) polynomial {
	t.Helper()
	var p polynomial
	for _, w := range strings.Fields(text) {
		f, err := frac.Parse(w)
		if err != nil {
			t.Fatal(err)
		}
		p = append(p, f)
	}
	return p
}

// product is that of polynomials.
func product(l ...polynomial) polynomial {
	out := polynomial{frac.Whole(1)}
	for _, p := range l {
		next := make(polynomial, len(out)+len(p)-1)
		for i, a := range out {
			for k, b := range p {
				next[i+k] = next[i+k].Add(a.Mul(b))
			}
		}
		out = next
	}
	return out
}

// A polynomial is worked out, moved and stretched.
func TestWorkedOut(t *testing.T) {
	p := read(t, "5 -3 0 2")
	for x, value := range map[string]string{"0": "5", "1": "4", "-2": "-5", "1/2": "15/4", "3": "50"} {
		if got := p.at(read(t, x)[0]); got.Text() != value {
			t.Errorf("at %s: %s, not %s", x, got.Text(), value)
		}
	}
	if got := (polynomial{}).at(frac.Whole(3)); got.Sign() != 0 {
		t.Errorf("nothing at 3: %s", got.Text())
	}
	for _, c := range []struct {
		what, text string
		got        polynomial
	}{
		{"moved", "4 3 6 2", p.moved()}, {"doubled", "5 -6 0 16", p.doubled()}, {"halved", "40 -12 0 2", p.halved()}, {"slope", "-3 0 6", p.slope()},
		{"trimmed", "0 1", read(t, "0 1 0 0").trimmed()}, {"trimmed", "", read(t, "0 0").trimmed()},
		{"lowered", "-3 4 6", read(t, "1/4 -1/3 -1/2").lowered()}, {"lowered", "-3 2", read(t, "-6 4").lowered()}, {"lowered", "1", read(t, "-7/3").lowered()},
		{"over", "-2 3", product(read(t, "-2 3"), read(t, "1 5 7")).over(read(t, "1 5 7"))},
	} {
		if frac.Words(c.got) != c.text {
			t.Errorf("%s: %s, not %s", c.what, frac.Words(c.got), c.text)
		}
	}
	if frac.Words(p) != "5 -3 0 2" {
		t.Errorf("it became %s", frac.Words(p))
	}
}

// Coefficients are gone through from the end, and no farther than asked.
func TestFromEnd(t *testing.T) {
	var seen polynomial
	for c := range read(t, "1 2 3 4").fromEnd {
		seen = append(seen, c)
		if len(seen) == 3 {
			break
		}
	}
	if frac.Words(seen) != "4 3 2" {
		t.Errorf("%s", frac.Words(seen))
	}
}

// What is left is told of all roots, each once; also where degrees fall by more than one at a step.
func TestSimple(t *testing.T) {
	for _, c := range []struct{ factors, text string }{
		{"-1 1", "-1 1"}, {"-1 1;-1 1", "-1 1"}, {"-1 1;-1 1;-1 1;2 3", "-2 -1 3"}, {"-2/3 1;-2/3 1", "-2 3"}, {"7", "1"}, {"7;-1 1;1 1;1 1", "-1 0 1"},
		{"-2 0 0 0 0 1;-2 0 0 0 0 1", "-2 0 0 0 0 1"}, {"1 0 0 0 0 0 1;1 0 0 0 0 0 1;-3 1", "-3 1 0 0 0 0 -3 1"}, {"1 0 1;1 0 1;1 0 1;1 0 1", "1 0 1"}, {"-5 0 0 1;-5 0 0 1;0 1", "0 -5 0 0 1"},
		// the prime is in the last coefficient, or two roots leave the same
		{"-1 2147483647;-2 1", "2 -4294967295 2147483647"}, {"-1 2147483647;-1 2147483647;-2 1", "2 -4294967295 2147483647"}, {"-1 1;-2147483648 1", "2147483648 -2147483649 1"}, {"-1 1;-2147483648 1;-1 1", "2147483648 -2147483649 1"}, {"-2147483647 1;2147483647 1", "-4611686014132420609 0 1"},
	} {
		var l []polynomial
		for _, f := range strings.Split(c.factors, ";") {
			l = append(l, read(t, f))
		}
		if got := product(l...).simple(); frac.Words(got) != c.text {
			t.Errorf("%s: %s, not %s", c.factors, frac.Words(got), c.text)
		}
	}
}

// drawnFactors are polynomials of low degrees with whole coefficients, the last one not 0.
func drawnFactors(r *rand.Rand) []polynomial {
	var l []polynomial
	for range 1 + r.Intn(4) {
		var p polynomial
		for range 1 + r.Intn(4) {
			p = append(p, frac.Whole((r.Intn(9)-4)*r.Intn(2)))
		}
		l = append(l, append(p, frac.Whole(1+r.Intn(5))))
	}
	return l
}

// What two have in common is found by whole numbers, and divides both.
func TestCommonDivisor(t *testing.T) {
	r := rand.New(rand.NewSource(48))
	for range 2000 {
		l := drawnFactors(r)
		p := product(append(l, l[:r.Intn(len(l)+1)]...)...)
		g := common(p, p.slope())
		for _, c := range g {
			if c.Floor().Cmp(c) != 0 {
				t.Fatalf("%s: %s is not whole", frac.Words(p), frac.Words(g))
			}
		}
		for _, f := range []polynomial{p, p.slope()} {
			if rest := left(f, g); len(rest) != 0 {
				t.Fatalf("%s, divided by %s: %s is left", frac.Words(f), frac.Words(g), frac.Words(rest))
			}
		}
		if p.distinct() && len(g) > 1 {
			t.Fatalf("%s has %s in common with its slope", frac.Words(p), frac.Words(g))
		}
		simple := p.simple()
		if rest := common(simple, simple.slope()); len(rest) != 1 {
			t.Fatalf("%s: %s has multiple roots", frac.Words(p), frac.Words(simple))
		}
		if len(simple) != len(p)-len(g)+1 {
			t.Fatalf("%s without %s: %s", frac.Words(p), frac.Words(g), frac.Words(simple))
		}
	}
}

// Numbers don't grow beyond need, also where degrees fall by two at a step (Knuth's example).
func TestCommonStaysShort(t *testing.T) {
	f, g := read(t, "-5 2 8 -3 -3 0 1 0 1"), read(t, "21 -9 -4 0 5 0 3")
	if got := common(f, g); frac.Words(got) != "260708" && frac.Words(got) != "-260708" {
		t.Errorf("%s", frac.Words(got))
	}
}

// What is not 0 has an inverse.
func TestInverse(t *testing.T) {
	for _, n := range []uint64{1, 2, 3, 1000, 1 << 30, prime - 2, prime - 1} {
		if n*inverse(n)%prime != 1 {
			t.Errorf("%d: %d", n, inverse(n))
		}
	}
}

// Roots above 0 up to 1 are bounded: 0 and 1 are exact, the end counts, the beginning does not.
func TestMost(t *testing.T) {
	for _, c := range []struct {
		text string
		most int
	}{
		{"1", 0}, {"-1 1", 1}, {"-1 2", 1}, {"0 1", 0}, {"-2 1", 0}, {"1 1", 0}, {"0 -1 1", 1}, {"1 -3 2", 2}, {"0 1 -3 2", 2}, {"6 -5 1", 0}, {"-3 2", 0}, {"1 -5 6", 2},
	} {
		if got := read(t, c.text).most(); got != c.most {
			t.Errorf("%s: %d, not %d", c.text, got, c.most)
		}
	}
}
