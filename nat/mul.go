package nat

import "math/bits"

// schoolMost is how many words are multiplied one by one: for fewer, halving costs more than it saves.
const schoolMost = 40

// Mul is a product.
func (x Nat) Mul(y Nat) Nat {
	if len(x) < len(y) {
		x, y = y, x
	}
	if len(y) == 0 {
		return nil
	}
	if y.One() {
		return x
	}
	if len(y) <= schoolMost {
		return mulWords(x, y)
	}
	half := (len(x) + 1) / 2
	if len(y) <= half {
		return mulHalves(x, y, half)
	}
	return karatsuba(x, y, half)
}

// mulWords multiplies word by word.
func mulWords(x, y Nat) Nat {
	out := make([]uint64, len(x)+len(y))
	for i, w := range y {
		out[i+len(x)] = addTimes(out[i:i+len(x)], x, w)
	}
	return trimmed(out)
}

// addTimes adds x times a word to as many words, and tells what is carried beyond them.
func addTimes(out []uint64, x Nat, word uint64) uint64 {
	var carry uint64
	for i, w := range x {
		lo, hi := timesPlus(w, word, carry)
		sum, c := bits.Add64(out[i], lo, 0)
		out[i], carry = sum, hi+c
	}
	return carry
}

// timesPlus is x times y plus what was carried, and what is carried on.
func timesPlus(x, y, carry uint64) (uint64, uint64) {
	hi, lo := bits.Mul64(x, y)
	lo, c := bits.Add64(lo, carry, 0)
	return lo, hi + c
}

// mulHalves multiplies both halves of x, where y is no longer than one of them.
func mulHalves(x, y Nat, half int) Nat {
	out := make([]uint64, len(x)+len(y))
	copy(out, x.low(half).Mul(y))
	addTo(out[half:], x.High(half).Mul(y))
	return trimmed(out)
}

// karatsuba takes three products of halves in the place of four.
func karatsuba(x, y Nat, half int) Nat {
	x0, x1 := x.low(half), x.High(half)
	y0, y1 := y.low(half), y.High(half)
	low, high := x0.Mul(y0), x1.Mul(y1)
	cross := x0.Add(x1).Mul(y0.Add(y1)).Sub(low).Sub(high)
	out := make([]uint64, len(x)+len(y))
	copy(out, low)
	copy(out[2*half:], high)
	addTo(out[half:], cross)
	return trimmed(out)
}

// Pow is x to the power of n, which is not below 0.
func (x Nat) Pow(n int) Nat {
	out := Of(1)
	for i := bits.Len(uint(n)) - 1; i >= 0; i-- {
		out = out.Mul(out)
		if n>>i&1 == 1 {
			out = out.Mul(x)
		}
	}
	return out
}

// CmpProducts compares a times b with c times d. (First by their leading bits alone, since that nearly always tells, however long they are.)
func CmpProducts(a, b, c, d Nat) int {
	if len(a) == 0 || len(b) == 0 || len(c) == 0 || len(d) == 0 {
		return a.Mul(b).Cmp(c.Mul(d))
	}
	x, n := leadingProduct(a, b)
	y, m := leadingProduct(c, d)
	switch {
	case n > m+1 || n == m && x > y && x-y >= leadingDoubt:
		return 1
	case m > n+1 || n == m && y > x && y-x >= leadingDoubt:
		return -1
	}
	return a.Mul(b).Cmp(c.Mul(d))
}

// leadingDoubt is by how much the leading bits of a product may be too small.
const leadingDoubt = 8

// leadingProduct are the leading 64 bits of a product, or up to leadingDoubt less, and how many bits are behind them.
func leadingProduct(a, b Nat) (uint64, int) {
	x, n := a.leading()
	y, m := b.leading()
	hi, lo := bits.Mul64(x, y)
	behind := n + m + wordBits
	if hi>>(wordBits-1) == 0 {
		return hi<<1 | lo>>(wordBits-1), behind - 1
	}
	return hi, behind
}

// leading are the leading 64 bits of a number that is not 0, the first of them 1, and how many bits are behind them (below 0, if there are not so many).
func (x Nat) leading() (uint64, int) {
	top := len(x) - 1
	n := bits.LeadingZeros64(x[top])
	word := x[top] << n
	if top > 0 {
		word |= x[top-1] >> (wordBits - n)
	}
	return word, top*wordBits - n
}
