package wave_test

import (
	"fmt"
	"math"
	"math/rand"
	"slices"
	"strconv"
	"testing"

	"tontine/api"
	"tontine/claims"
	"tontine/frac"
	"tontine/wave"
)

const (
	leastInt    = -1 << 63
	greatestInt = 1<<63 - 1
)

// sizes are how many numbers are turned.
func sizes() []int { return []int{1, 2, 4, 8, 16, 32, 64, 128, 256} }

// nought is -0.
func nought() float64 { return math.Copysign(0, -1) }

// 8.3, 8.4: how many numbers there may be.
func TestErrors(t *testing.T) {
	for n := range 600 {
		good := slices.Contains(sizes(), n)
		for _, back := range []bool{false, true} {
			l, err := wave.Turn(make([]complex128, n), back)
			if good != (err == nil) || good && len(l) != n || !good && (l != nil || err != error(api.ErrLimit)) {
				t.Errorf("Turn of %d numbers, back %v: %d numbers, %v", n, back, len(l), err)
			}
		}
		l, err := wave.Many(make([]float64, n), 1)
		if good != (err == nil) || good && len(l) != n || !good && (l != nil || err != error(api.ErrLimit)) {
			t.Errorf("Many of %d numbers: %d numbers, %v", n, len(l), err)
		}
	}
	for _, n := range []int{1023, 1024, 65536} {
		if l, err := wave.Turn(make([]complex128, n), true); l != nil || err != error(api.ErrLimit) {
			t.Errorf("Turn of %d numbers: %d numbers, %v", n, len(l), err)
		}
	}
	if l, err := wave.Turn(nil, true); l != nil || err != error(api.ErrLimit) {
		t.Errorf("Turn of nil: %v, %v", l, err)
	}
	if l, err := wave.Many(nil, 0); l != nil || err != error(api.ErrLimit) {
		t.Errorf("Many of nil: %v, %v", l, err)
	}
}

// 8.4: how many claims there may be, which is said ahead of how many numbers.
func TestManyErrors(t *testing.T) {
	for _, n := range []int{-1, api.MaxSize + 1, leastInt, greatestInt} {
		for _, l := range [][]float64{{1, 0}, {1, 0, 0}, nil, make([]float64, 512)} {
			if got, err := wave.Many(l, n); got != nil || err != error(api.ErrRange) {
				t.Errorf("Many of %d numbers, %d: %v, %v", len(l), n, got, err)
			}
		}
	}
	for _, n := range []int{0, 1, api.MaxSize} {
		if got, err := wave.Many([]float64{0.5, 0.5}, n); len(got) != 2 || err != nil {
			t.Errorf("Many, %d: %v, %v", n, got, err)
		}
	}
}

// 8.3: one number is itself, whatever it is; two are by hand, noughts with their sign.
func TestTurnByHand(t *testing.T) {
	o := nought()
	for _, back := range []bool{false, true} {
		for _, c := range []complex128{complex(3, -4), complex(0, 0), complex(o, 0), complex(0, o), complex(o, o), complex(math.Inf(1), math.Inf(-1)), complex(5e-324, -5e-324), complex(math.NaN(), 1)} {
			l, err := wave.Turn([]complex128{c}, back)
			wantPairs(t, fmt.Sprint("one number, back ", back), l, err, pairs([]complex128{c}))
		}
	}
	for _, s := range []struct {
		l, there, back []complex128
	}{
		{[]complex128{1, 2}, []complex128{complex(3, 0), complex(-1, 0)}, []complex128{complex(1.5, 0), complex(-0.5, 0)}},
		{[]complex128{complex(0, o), complex(-1, o)}, []complex128{complex(-1, 0), complex(1, o)}, []complex128{complex(-0.5, o), complex(0.5, 0)}},
		{[]complex128{complex(o, o), complex(o, o)}, []complex128{complex(o, 0), complex(0, o)}, []complex128{complex(0, o), complex(o, 0)}},
		{[]complex128{complex(1, 2), complex(3, 5)}, []complex128{complex(4, 7), complex(-2, -3)}, []complex128{complex(2, 3.5), complex(-1, -1.5)}},
	} {
		l, err := wave.Turn(s.l, false)
		wantPairs(t, fmt.Sprint(s.l, " there"), l, err, pairs(s.there))
		l, err = wave.Turn(s.l, true)
		wantPairs(t, fmt.Sprint(s.l, " back"), l, err, pairs(s.back))
	}
	l, err := wave.Turn([]complex128{1, 2, 3, 4}, false)
	wantPairs(t, "four there", l, err, []pair{{10, 0}, {-2, 2}, {-2, 0}, {-2, -2}})
	l, err = wave.Turn([]complex128{1, 2, 3, 4}, true)
	wantPairs(t, "four back", l, err, []pair{{2.5, 0}, {-0.5, -0.5}, {-0.5, 0}, {-0.5, 0.5}})
}

// 8.2: the roots of 8 and 16, as they come out of a 1 at the second place; each one has its own rounding.
func TestRoots(t *testing.T) {
	for _, bits := range [][][2]uint64{
		{{0x3ff0000000000000, 0}, {0x3fe6a09e667f3bcd, 0x3fe6a09e667f3bcc}, {0x3cb0000000000000, 0x3ff0000000000000}, {0xbfe6a09e667f3bcb, 0x3fe6a09e667f3bce}},
		{{0x3ff0000000000000, 0}, {0x3fed906bcf328d46, 0x3fd87de2a6aea962}, {0x3fe6a09e667f3bcc, 0x3fe6a09e667f3bcc}, {0x3fd87de2a6aea962, 0x3fed906bcf328d45},
			{0x3c90000000000000, 0x3feffffffffffffe}, {0xbfd87de2a6aea95f, 0x3fed906bcf328d44}, {0xbfe6a09e667f3bca, 0x3fe6a09e667f3bcb}, {0xbfed906bcf328d42, 0x3fd87de2a6aea962}},
	} {
		n := 2 * len(bits)
		unit := make([]complex128, n)
		unit[1] = 1
		var there, back []pair
		for _, sign := range []float64{1, -1} {
			for _, b := range bits {
				x, y := sign*math.Float64frombits(b[0]), sign*math.Float64frombits(b[1])
				there = append(there, pair{x, 0 - y})
				back = append(back, pair{x / float64(n), 0 + y/float64(n)})
			}
		}
		l, err := wave.Turn(unit, false)
		wantPairs(t, fmt.Sprint("roots of ", n, ", there"), l, err, there)
		l, err = wave.Turn(unit, true)
		wantPairs(t, fmt.Sprint("roots of ", n, ", back"), l, err, back)
	}
}

// 8.1, 8.3: bit by bit, against what is exact and then rounded at each step.
func TestTurn(t *testing.T) {
	r := rand.New(rand.NewSource(8))
	for _, n := range sizes() {
		for range 1 + 64/n {
			l := drawnWaves(r, n)
			for _, back := range []bool{false, true} {
				got, err := wave.Turn(l, back)
				wantPairs(t, fmt.Sprint(n, " numbers, back ", back), got, err, whole(pairs(l), back))
			}
		}
	}
}

// 8.1, 8.3: numbers at the edges of what floats can be.
func TestTurnEdges(t *testing.T) {
	tiny, great := 5e-324, math.MaxFloat64/4
	for _, l := range [][]complex128{
		{complex(tiny, -tiny), complex(3*tiny, tiny), complex(tiny, 0), complex(nought(), 7*tiny)},
		{complex(great, 0), complex(-great, 1), complex(tiny, great), complex(0, -great)},
		{complex(1, 1e-300), complex(1e-300, 1), complex(1e300, 1e-20), complex(-1e300, 1), 1, complex(0, 1), complex(1e-310, 3e-310), -1},
		make([]complex128, 256),
	} {
		for _, back := range []bool{false, true} {
			got, err := wave.Turn(l, back)
			wantPairs(t, fmt.Sprint(l, ", back ", back), got, err, whole(pairs(l), back))
		}
	}
}

// P1: what is no number, or beyond all numbers, is turned like others; a number that is none is one nowhere.
func TestNoNumbers(t *testing.T) {
	for _, bad := range []float64{math.NaN(), math.Inf(1), math.Inf(-1)} {
		for _, n := range sizes()[1:] {
			l := make([]complex128, n)
			l[n/2] = complex(bad, 0)
			x := make([]float64, n)
			x[n-1] = bad
			for _, back := range []bool{false, true} {
				got, err := wave.Turn(l, back)
				if err != nil || len(got) != n {
					t.Fatalf("%v: %d numbers, %v", bad, len(got), err)
				}
				for _, c := range got {
					if !math.IsNaN(real(c)) && !math.IsInf(real(c), 0) {
						t.Errorf("%v became %v", bad, c)
					}
				}
			}
			if got, err := wave.Many(x, 3); err != nil || len(got) != n || !math.IsNaN(got[0]) {
				t.Errorf("%v: %v, %v", bad, got, err)
			}
		}
	}
}

// 8.3: there and back numbers are as they were, but for rounding.
func TestThereAndBack(t *testing.T) {
	r := rand.New(rand.NewSource(81))
	for _, n := range sizes() {
		var l []complex128
		for range n {
			l = append(l, complex(r.Float64()-0.5, r.Float64()-0.5))
		}
		there, err := wave.Turn(l, false)
		if err != nil {
			t.Fatal(err)
		}
		again, err := wave.Turn(there, true)
		if err != nil {
			t.Fatal(err)
		}
		for i, c := range again {
			if d := c - l[i]; math.Hypot(real(d), imag(d)) > 1e-13 {
				t.Errorf("of %d the number at %d: %v, not %v", n, i, c, l[i])
			}
		}
	}
}

// 8.4: by hand, noughts with their sign.
func TestManyByHand(t *testing.T) {
	o := nought()
	for _, s := range []struct {
		l    []float64
		n    int
		want []float64
	}{
		{[]float64{3}, 0, []float64{1}}, {[]float64{3}, 1, []float64{3}}, {[]float64{3}, 4, []float64{81}}, {[]float64{-3}, 3, []float64{-27}},
		{[]float64{o}, 0, []float64{1}}, {[]float64{o}, 1, []float64{o}}, {[]float64{o}, 2, []float64{0}}, {[]float64{0}, 5, []float64{0}},
		{[]float64{0.5, 0.5}, 0, []float64{1, 0}}, {[]float64{0.5, 0.5}, 1, []float64{0.5, 0.5}}, {[]float64{0, 1}, 2, []float64{1, 0}}, {[]float64{0, 1}, 3, []float64{0, 1}},
		{[]float64{0.5, 0.5, 0, 0}, 3, []float64{0.125, 0.375, 0.375, 0.125}}, {[]float64{0.5, 0.5, 0, 0}, 2, []float64{0.25, 0.5, 0.25, 0}},
		{[]float64{0, 1, 0, 0}, 5, []float64{0, 1, 0, 0}}, // it goes round
		{[]float64{2}, 200, []float64{math.Ldexp(1, 200)}}, {[]float64{1e300}, 2, []float64{math.Inf(1)}}, {[]float64{1e300}, 4, []float64{math.NaN()}},
		{[]float64{math.Inf(1), 0}, 1, []float64{math.NaN(), math.NaN()}}, // the first power is a product, too
	} {
		l, err := wave.Many(s.l, s.n)
		wantFloats(t, fmt.Sprint(s.l, ", ", s.n), l, err, s.want)
	}
}

// 8.1, 8.4: bit by bit, against what is exact and then rounded at each step.
func TestMany(t *testing.T) {
	r := rand.New(rand.NewSource(82))
	for _, n := range sizes() {
		for _, often := range []int{0, 1, 2, 3, 4, 7, 8, 1 + r.Intn(30), api.MaxSize - 1, api.MaxSize} {
			l := drawnLaw(r, n)
			got, err := wave.Many(l, often)
			wantFloats(t, fmt.Sprint(n, " numbers, ", often), got, err, many(l, often))
		}
	}
}

// 8.4: Many is how likely each amount of n claims is, but for rounding; what does not fit goes round.
func TestManyLikeTimes(t *testing.T) {
	var l claims.Law
	var x []float64
	for _, n := range []int{3, 0, 2, 1, 4} {
		f, _ := frac.Of(n, 10)
		l = append(l, f)
		x = append(x, float64(n)/10)
	}
	for _, size := range []int{8, 16, 64, 256} {
		padded := append(slices.Clone(x), make([]float64, size-len(x))...)
		for _, n := range []int{0, 1, 2, 5, 17, 50} {
			all, err := claims.Times(l, n)
			if err != nil {
				t.Fatal(err)
			}
			round := make([]float64, size)
			for amount, f := range all {
				text, _ := f.Decimal(api.MaxPlaces)
				value, _ := strconv.ParseFloat(text, 64)
				round[amount%size] += value
			}
			got, err := wave.Many(padded, n)
			if err != nil || len(got) != size {
				t.Fatalf("%d numbers, %v", len(got), err)
			}
			for i, v := range got {
				if math.Abs(v-round[i]) > 1e-13 {
					t.Errorf("%d claims, %d numbers, at %d: %v, not %v", n, size, i, v, round[i])
				}
			}
		}
	}
}

// P4: what is handed in stays as it is, what stands behind it too, and what comes out is the caller's.
func TestMemory(t *testing.T) {
	r := rand.New(rand.NewSource(83))
	for _, n := range sizes() {
		waves, law := drawnWaves(r, 2*n), drawnLaw(r, 2*n)
		wavesToo, lawToo := slices.Clone(waves), slices.Clone(law)
		for _, back := range []bool{false, true} {
			first, _ := wave.Turn(waves[:n], back)
			kept := pairs(first)
			clear(first[:cap(first)])
			again, err := wave.Turn(waves[:n], back)
			wantPairs(t, "again", again, err, kept)
		}
		first, _ := wave.Many(law[:n], 3)
		kept := slices.Clone(first)
		clear(first[:cap(first)])
		again, err := wave.Many(law[:n], 3)
		wantFloats(t, "again", again, err, kept)
		wantPairs(t, "what was handed in", waves, nil, pairs(wavesToo))
		wantFloats(t, "what was handed in", law, nil, lawToo)
	}
}
