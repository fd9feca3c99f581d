package ring

import "math/bits"

// wide is a whole number of 192 bits, in two's complement. A round product's numbers need up to 141 of them: 2^14 products of up to 2^126.
type wide struct {
	low, high, top uint64
}

// sumAt is the round product's number at the place j, exactly. Both rows have 2^k numbers.
func sumAt(a, b []int64, j int) wide {
	var sum wide
	// The low bits are the rest modulo the length for places below 0, too.
	last := len(b) - 1
	for m, n := range a {
		sum = sum.plus(n, b[(j-m)&last])
	}
	return sum
}

// plus is the number with x times y added to it.
func (w wide) plus(x, y int64) wide {
	high, low := bits.Mul64(uint64(x), uint64(y))
	// A factor below 0 was taken for one that is 2^64 greater.
	high -= uint64(x>>63)&uint64(y) + uint64(y>>63)&uint64(x)
	sign := uint64(int64(high) >> 63)
	var carry uint64
	w.low, carry = bits.Add64(w.low, low, 0)
	w.high, carry = bits.Add64(w.high, high, carry)
	w.top += sign + carry
	return w
}

// whole is the number as an int64, and true; 0 and false, if it is none.
func (w wide) whole() (int64, bool) {
	n := int64(w.low)
	sign := uint64(n >> 63)
	if w.high != sign || w.top != sign {
		return 0, false
	}
	return n, true
}
