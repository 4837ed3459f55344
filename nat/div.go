package nat

import "math/bits"

// longMost is how many words of a quotient are found one by one: for fewer, halving costs more than it saves.
const longMost = 80

// QuoRem is x divided by y, cut off, and what is left; y may not be 0.
func (x Nat) QuoRem(y Nat) (Nat, Nat) {
	if x.Cmp(y) < 0 {
		return nil, x
	}
	if len(y) == 1 {
		quo, rem := x.byWord(y[0])
		return quo, Of(rem)
	}
	shift := bits.LeadingZeros64(y[len(y)-1])
	quo, rem := divide(x.left(shift), y.left(shift))
	return quo, rem.right(shift)
}

// Quo is x divided by y, cut off; y may not be 0.
func (x Nat) Quo(y Nat) Nat {
	if y.One() {
		return x
	}
	quo, _ := x.QuoRem(y)
	return quo
}

// byWord is x divided by a word, and what is left.
func (x Nat) byWord(word uint64) (Nat, uint64) {
	out := make([]uint64, len(x))
	var rem uint64
	for i := len(x) - 1; i >= 0; i-- {
		out[i], rem = bits.Div64(rem, x[i], word)
	}
	return trimmed(out), rem
}

// divide divides by a number of two words or more whose highest bit is 1.
func divide(x, y Nat) (Nat, Nat) {
	more := len(x) - len(y)
	switch {
	case x.Cmp(y) < 0:
		return nil, x
	case more < longMost || len(y) < longMost:
		return longDivision(x, y)
	case more > len(y):
		return divideParts(x, y)
	}
	return divideHalves(x, y, more/2)
}

// divideParts goes over parts of x that are as long as y, from the top.
func divideParts(x, y Nat) (Nat, Nat) {
	n := len(y)
	out := make([]uint64, len(x))
	var quo, rem Nat
	for i := (len(x) - 1) / n * n; i >= 0; i -= n {
		quo, rem = divide(rem.above(n, x.High(i).low(n)), y)
		copy(out[i:], quo)
	}
	return trimmed(out), rem
}

// divideHalves finds a quotient in two halves, the lower one n words long, each by the higher words of y alone, and then mends it by the lower ones.
func divideHalves(x, y Nat, n int) (Nat, Nat) {
	high, rest := divideMended(x.High(n), y, n)
	low, rem := divideMended(rest.above(n, x.low(n)), y, n)
	return high.above(n, nil).Add(low), rem
}

// divideMended divides x by y without their lowest n words, and then mends the quotient, which can only be too great, and what is left.
func divideMended(x, y Nat, n int) (Nat, Nat) {
	quo, rest := divide(x.High(n), y.High(n))
	rem := rest.above(n, x.low(n))
	taken := quo.Mul(y.low(n))
	for rem.Cmp(taken) < 0 {
		quo = quo.Sub(Of(1))
		rem = rem.Add(y)
	}
	return quo, rem.Sub(taken)
}

// longDivision finds a quotient word by word.
func longDivision(x, y Nat) (Nat, Nat) {
	n := len(y)
	rem := make([]uint64, len(x)+1)
	copy(rem, x)
	quo := make([]uint64, len(x)-n+1)
	for i := len(quo) - 1; i >= 0; i-- {
		word := guessed(rem[i:i+n+1], y)
		missing := subTimes(rem[i:i+n], y, word) - rem[i+n]
		for missing != 0 {
			word--
			missing -= addTo(rem[i:i+n], y)
		}
		rem[i+n] = 0
		quo[i] = word
	}
	return trimmed(quo), trimmed(rem)
}

// guessed is how often y fits into one word more than it has, by the highest words alone: at most two too much.
func guessed(x []uint64, y Nat) uint64 {
	top := len(x) - 1
	first, second := y[top-1], y[top-2]
	if x[top] >= first {
		return ^uint64(0)
	}
	word, rem := bits.Div64(x[top], x[top-1], first)
	hi, lo := bits.Mul64(word, second)
	for hi > rem || hi == rem && lo > x[top-2] {
		word--
		var carry, borrow uint64
		rem, carry = bits.Add64(rem, first, 0)
		if carry != 0 {
			break
		}
		lo, borrow = bits.Sub64(lo, second, 0)
		hi -= borrow
	}
	return word
}

// subTimes takes x times a word from as many words, and tells what is borrowed beyond them.
func subTimes(out []uint64, x Nat, word uint64) uint64 {
	var carry uint64
	for i, w := range x {
		lo, hi := timesPlus(w, word, carry)
		rest, c := bits.Sub64(out[i], lo, 0)
		out[i], carry = rest, hi+c
	}
	return carry
}
