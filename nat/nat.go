// Package nat: whole numbers from 0 on, of any size.
package nat

import (
	"cmp"
	"math/bits"
)

// wordBits is how many bits a word has.
const wordBits = 64

// Nat is a number in words, the lowest first. The highest is never 0, and 0 has no words, so that each number has one form alone. Nothing writes into a Nat that is made: numbers may share words.
type Nat []uint64

// Of is a word's number.
func Of(word uint64) Nat {
	if word == 0 {
		return nil
	}
	return Nat{word}
}

// trimmed is the number of words that may have noughts at the top.
func trimmed(words []uint64) Nat {
	n := len(words)
	for n > 0 && words[n-1] == 0 {
		n--
	}
	if n == 0 {
		return nil
	}
	return words[:n:n]
}

// Word is the number, if it is one word.
func (x Nat) Word() (uint64, bool) {
	switch len(x) {
	case 0:
		return 0, true
	case 1:
		return x[0], true
	}
	return 0, false
}

// One tells whether a number is 1.
func (x Nat) One() bool { return len(x) == 1 && x[0] == 1 }

// Odd tells whether a number is odd.
func (x Nat) Odd() bool { return len(x) > 0 && x[0]&1 == 1 }

// Cmp is -1, 0 or 1: below, like, above another number.
func (x Nat) Cmp(y Nat) int {
	if len(x) != len(y) {
		return cmp.Compare(len(x), len(y))
	}
	for i := len(x) - 1; i >= 0; i-- {
		if x[i] != y[i] {
			return cmp.Compare(x[i], y[i])
		}
	}
	return 0
}

// Add is a sum.
func (x Nat) Add(y Nat) Nat {
	if len(x) < len(y) {
		x, y = y, x
	}
	if len(y) == 0 {
		return x
	}
	out := make([]uint64, len(x)+1)
	copy(out, x)
	addTo(out, y)
	return trimmed(out)
}

// Sub is a difference; y may not be above x.
func (x Nat) Sub(y Nat) Nat {
	if len(y) == 0 {
		return x
	}
	out := make([]uint64, len(x))
	copy(out, x)
	subFrom(out, y)
	return trimmed(out)
}

// addTo adds words to at least as many, and tells what is carried beyond them.
func addTo(out, y []uint64) uint64 {
	var carry uint64
	for i, w := range y {
		out[i], carry = bits.Add64(out[i], w, carry)
	}
	for i := len(y); i < len(out) && carry != 0; i++ {
		out[i], carry = bits.Add64(out[i], 0, carry)
	}
	return carry
}

// subFrom takes words from at least as many, and tells what is borrowed beyond them.
func subFrom(out, y []uint64) uint64 {
	var borrow uint64
	for i, w := range y {
		out[i], borrow = bits.Sub64(out[i], w, borrow)
	}
	for i := len(y); i < len(out) && borrow != 0; i++ {
		out[i], borrow = bits.Sub64(out[i], 0, borrow)
	}
	return borrow
}

// low is the number of the lowest n words.
func (x Nat) low(n int) Nat {
	if len(x) <= n {
		return x
	}
	return trimmed(x[:n])
}

// High is the number of the words above the lowest n.
func (x Nat) High(n int) Nat {
	if len(x) <= n {
		return nil
	}
	return x[n:]
}

// above is x, n words higher, with the number rest in the lowest n words.
func (x Nat) above(n int, rest Nat) Nat {
	if len(x) == 0 {
		return rest
	}
	out := make([]uint64, len(x)+n)
	copy(out, rest)
	copy(out[n:], x)
	return out
}

// left is x times 2 to the power of n, which is below 64.
func (x Nat) left(n int) Nat {
	if n == 0 || len(x) == 0 {
		return x
	}
	out := make([]uint64, len(x)+1)
	var carry uint64
	for i, w := range x {
		out[i] = w<<n | carry
		carry = w >> (wordBits - n)
	}
	out[len(x)] = carry
	return trimmed(out)
}

// right is x divided by 2 to the power of n, which is below 64, cut off.
func (x Nat) right(n int) Nat {
	if n == 0 || len(x) == 0 {
		return x
	}
	out := make([]uint64, len(x))
	var carry uint64
	for i := len(x) - 1; i >= 0; i-- {
		out[i] = x[i]>>n | carry
		carry = x[i] << (wordBits - n)
	}
	return trimmed(out)
}
