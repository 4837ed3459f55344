package nat

import (
	"slices"
	"strconv"
)

// tenWord is the greatest power of ten that a word can be, tenDigits how many noughts it has.
const (
	tenWord   = 10_000_000_000_000_000_000
	tenDigits = 19
)

// shortDigits is of how many digits a text is made piece by piece: for fewer, halving costs more than it saves.
const shortDigits = 32 * tenDigits

// Read is the number of decimal digits.
func Read(digits string) Nat {
	var out Nat
	for len(digits) > 0 {
		n := min(len(digits), tenDigits)
		word, power := uint64(0), uint64(1)
		for i := range n {
			word = word*10 + uint64(digits[i]-'0')
			power *= 10
		}
		out = out.Mul(Of(power)).Add(Of(word))
		digits = digits[n:]
	}
	return out
}

// Text writes a number in decimal digits.
func (x Nat) Text() string {
	if word, ok := x.Word(); ok {
		return strconv.FormatUint(word, 10)
	}
	return string(appendLong(nil, x, 0, powersFor(x)))
}

// powersFor are ten to the power of shortDigits and its squares, none above x, so many that the last one's square is.
func powersFor(x Nat) []Nat {
	var out []Nat
	power := Of(10).Pow(shortDigits)
	for power.Cmp(x) <= 0 {
		out = append(out, power)
		if 2*len(power)-1 > len(x) { // the square has more words than x: it need not be worked out
			break
		}
		power = power.Mul(power)
	}
	return out
}

// appendLong writes both halves of a number, parted by the last of the powers; width is how many digits there must be, with noughts ahead (0: as many as there are).
func appendLong(out []byte, x Nat, width int, powers []Nat) []byte {
	last := len(powers) - 1
	if last < 0 {
		return appendShort(out, x, width)
	}
	digits := shortDigits << last
	high, low := x.QuoRem(powers[last])
	if len(high) == 0 && width == 0 {
		return appendLong(out, low, 0, powers[:last])
	}
	out = appendLong(out, high, max(width-digits, 0), powers[:last])
	return appendLong(out, low, digits, powers[:last])
}

// appendShort writes a number piece by piece, from its end.
func appendShort(out []byte, x Nat, width int) []byte {
	var back []byte
	for len(x) > 1 {
		var rest uint64
		x, rest = x.byWord(tenWord)
		for range tenDigits {
			back = append(back, byte('0'+rest%10))
			rest /= 10
		}
	}
	if len(x) == 1 {
		for rest := x[0]; rest != 0; rest /= 10 {
			back = append(back, byte('0'+rest%10))
		}
	}
	for len(back) < width {
		back = append(back, '0')
	}
	slices.Reverse(back)
	return append(out, back...)
}
