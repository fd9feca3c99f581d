package dyad

import (
	"cmp"
	"math/bits"
)

// The functions of this file reckon with whole numbers from 0 on: lists of limbs, the lowest first, with no nought on top, neither in what they are handed nor in what they tell. They change nothing that they are handed, and tell new memory, where they do not say otherwise.

// trim is the number whose limbs may have noughts on top, in the same memory.
func trim(m []uint64) []uint64 {
	n := len(m)
	for n > 0 && m[n-1] == 0 {
		n--
	}
	return m[:n]
}

// bitLength is how many bits there are up to the highest one that is set; m is not 0.
func bitLength(m []uint64) int {
	top := len(m) - 1
	return 64*top + bits.Len64(m[top])
}

// lowNoughts is how many noughts stand below the lowest bit that is set; m is not 0.
func lowNoughts(m []uint64) int {
	i := 0
	for m[i] == 0 {
		i++
	}
	return 64*i + bits.TrailingZeros64(m[i])
}

// bitAt tells whether the bit at a place is set.
func bitAt(m []uint64, place int) bool {
	i := place / 64
	return i < len(m) && m[i]>>(place%64)&1 == 1
}

// compare is -1, 0 or 1: m is less than n, as great, greater.
func compare(m, n []uint64) int {
	if len(m) != len(n) {
		return cmp.Compare(len(m), len(n))
	}
	for i := len(m) - 1; i >= 0; i-- {
		if m[i] != n[i] {
			return cmp.Compare(m[i], n[i])
		}
	}
	return 0
}

// shift is m times 2 to that power; what lies behind the point is cut off.
func shift(m []uint64, power int) []uint64 {
	if power < 0 {
		return shiftDown(m, -power)
	}
	return shiftUp(m, power)
}

func shiftUp(m []uint64, by int) []uint64 {
	limbs, rest := by/64, by%64
	up := make([]uint64, len(m)+limbs+1)
	for i, x := range m {
		up[i+limbs] |= x << rest
		up[i+limbs+1] = x >> (64 - rest)
	}
	return trim(up)
}

func shiftDown(m []uint64, by int) []uint64 {
	limbs, rest := by/64, by%64
	if limbs >= len(m) {
		return nil
	}
	down := make([]uint64, len(m)-limbs)
	for i, x := range m[limbs:] {
		down[i] = x >> rest
		if i > 0 {
			down[i-1] |= x << (64 - rest)
		}
	}
	return trim(down)
}

func plus(m, n []uint64) []uint64 {
	if len(m) < len(n) {
		m, n = n, m
	}
	s := make([]uint64, len(m)+1)
	carry := copyPlus(s, m, n)
	s[len(m)] = carry
	return trim(s)
}

// copyPlus writes m plus n into s, as many limbs as m has, and tells what is carried; n is no longer than m.
func copyPlus(s, m, n []uint64) uint64 {
	carry := uint64(0)
	for i, x := range n {
		s[i], carry = bits.Add64(m[i], x, carry)
	}
	for i := len(n); i < len(m); i++ {
		s[i], carry = bits.Add64(m[i], 0, carry)
	}
	return carry
}

// minus is m less n; n is not above m.
func minus(m, n []uint64) []uint64 {
	d := make([]uint64, len(m))
	borrow := uint64(0)
	for i, x := range n {
		d[i], borrow = bits.Sub64(m[i], x, borrow)
	}
	for i := len(n); i < len(m); i++ {
		d[i], borrow = bits.Sub64(m[i], 0, borrow)
	}
	return trim(d)
}

func times(m, n []uint64) []uint64 {
	p := make([]uint64, len(m)+len(n))
	for i, x := range m {
		p[i+len(n)] = addTimes(p[i:i+len(n)], n, x)
	}
	return trim(p)
}

// addTimes adds x times n to part, which has as many limbs as n, and tells what is carried.
func addTimes(part, n []uint64, x uint64) uint64 {
	carry := uint64(0)
	for i, y := range n {
		high, low := bits.Mul64(x, y)
		low, more := bits.Add64(low, carry, 0)
		high += more
		part[i], more = bits.Add64(part[i], low, 0)
		carry = high + more
	}
	return carry
}

// takeTimes takes x times n off part, which has one limb more than n, and tells what is borrowed.
func takeTimes(part, n []uint64, x uint64) uint64 {
	carry := uint64(0)
	for i, y := range n {
		high, low := bits.Mul64(x, y)
		low, more := bits.Add64(low, carry, 0)
		high += more
		part[i], more = bits.Sub64(part[i], low, 0)
		carry = high + more
	}
	top, borrow := bits.Sub64(part[len(n)], carry, 0)
	part[len(n)] = top
	return borrow
}

// quotient is how often n, which is not 0, goes into m.
func quotient(m, n []uint64) []uint64 {
	if len(m) < len(n) {
		return nil
	}
	if len(n) == 1 {
		return shortQuotient(m, n[0])
	}
	// With its highest bit set, what divides has a top limb by which guesses are near.
	by := bits.LeadingZeros64(n[len(n)-1])
	n = shiftUp(n, by)
	rest := make([]uint64, len(m)+1)
	copy(rest, shiftUp(m, by))
	q := make([]uint64, len(m)-len(n)+1)
	for i := len(q) - 1; i >= 0; i-- {
		q[i] = nextLimb(rest[i:i+len(n)+1], n)
	}
	return trim(q)
}

func shortQuotient(m []uint64, by uint64) []uint64 {
	q := make([]uint64, len(m))
	rest := uint64(0)
	for i := len(m) - 1; i >= 0; i-- {
		q[i], rest = bits.Div64(rest, m[i], by)
	}
	return trim(q)
}

// nextLimb is how often n goes into part, which has one limb more; that is taken off part. It is below 2^64, as part's upper limbs are below n.
func nextLimb(part, n []uint64) uint64 {
	x := guess(part, n)
	borrow := takeTimes(part, n, x)
	for borrow != 0 {
		x--
		borrow -= copyPlus(part, part, n)
	}
	return x
}

// guess is how often n goes into part as their top limbs tell it: never too few times, and seldom too many.
func guess(part, n []uint64) uint64 {
	top := len(n) - 1
	if part[top+1] >= n[top] {
		return 1<<64 - 1
	}
	x, rest := bits.Div64(part[top+1], part[top], n[top])
	for {
		high, low := bits.Mul64(x, n[top-1])
		if high < rest || high == rest && low <= part[top-1] {
			return x
		}
		x--
		more, carry := bits.Add64(rest, n[top], 0)
		if carry != 0 {
			return x
		}
		rest = more
	}
}

// rootOf is the greatest number whose square is not above m, and whether that is m.
//
// Each round makes the root of m's upper bits, have + 1 bits of it, into one of some twice as many, by one quotient: half the sum of a root that is near and of the quotient by it is a root that is nearer. After each round it is less than 1 off the true one, either way; so at last it is the number wanted, or one above it.
func rootOf(m []uint64) ([]uint64, bool) {
	if len(m) == 0 {
		return nil, true
	}
	half := (bitLength(m) - 1) / 2
	root, have := []uint64{1}, 0
	for round := bits.Len(uint(half)) - 1; round >= 0; round-- {
		want := half >> round
		next := quotient(shiftDown(m, 2*half-have-want+1), root)
		root = plus(shiftUp(root, want-have-1), next)
		have = want
	}
	side := compare(times(root, root), m)
	if side > 0 {
		root = minus(root, []uint64{1})
	}
	return root, side == 0
}
