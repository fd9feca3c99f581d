package limb

import (
	"cmp"
	"math/bits"
)

// The functions of this file reckon with sizes, which are whole numbers from 0 on: lists of limbs, the lowest first. They change nothing that they are handed.

// limbsOf tells the limbs of a size by their places: behind its end, and ahead of its beginning, there are noughts.
func limbsOf(m []uint64) func(place int) uint64 {
	return func(place int) uint64 {
		if place < 0 || place >= len(m) {
			return 0
		}
		return m[place]
	}
}

// trim is the size without the noughts on top, in the same memory.
func trim(m []uint64) []uint64 {
	n := len(m)
	for n > 0 && m[n-1] == 0 {
		n--
	}
	return m[:n]
}

// compare is -1, 0 or 1: m is less than n, as great, greater; neither has a nought on top.
func compare(m, n []uint64) int {
	if len(m) != len(n) {
		return cmp.Compare(len(m), len(n))
	}
	for i := range len(m) {
		// The highest limbs that differ settle it.
		place := len(m) - 1 - i
		if m[place] != n[place] {
			return cmp.Compare(m[place], n[place])
		}
	}
	return 0
}

// bitLength is how many bits there are up to the highest one that is set; m has no nought on top.
func bitLength(m []uint64) int {
	if len(m) == 0 {
		return 0
	}
	top := len(m) - 1
	return 64*top + bits.Len64(m[top])
}

// lowNoughts is how many noughts stand below the lowest bit that is set.
func lowNoughts(m []uint64) int {
	for i := range len(m) {
		if m[i] != 0 {
			return 64*i + bits.TrailingZeros64(m[i])
		}
	}
	return 64 * len(m)
}

// plus is m plus n, with room for a carry on top.
func plus(m, n []uint64) []uint64 {
	x, y := limbsOf(m), limbsOf(n)
	s := make([]uint64, max(len(m), len(n))+1)
	carry := uint64(0)
	for i := range len(s) {
		s[i], carry = bits.Add64(x(i), y(i), carry)
	}
	return s
}

// minus is m less n, which is not above m.
func minus(m, n []uint64) []uint64 {
	x, y := limbsOf(m), limbsOf(n)
	d := make([]uint64, len(m))
	borrow := uint64(0)
	for i := range len(d) {
		d[i], borrow = bits.Sub64(x(i), y(i), borrow)
	}
	return d
}

// shifted is m, which has no nought on top, times 2 to the power by; what lies behind the point is cut off.
func shifted(m []uint64, by int) []uint64 {
	// Rounded down both ways, so that the rest is from 0 to 63 when it goes down, too.
	limbs, rest := by>>6, by&63
	x := limbsOf(m)
	s := make([]uint64, max(0, bitLength(m)+by+63)/64)
	below := x(-limbs - 1)
	for i := range len(s) {
		here := x(i - limbs)
		s[i] = here<<rest | below>>(64-rest)
		below = here
	}
	return s
}
