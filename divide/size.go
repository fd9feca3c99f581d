package divide

import (
	"math"
	"math/bits"
)

// The functions of this file reckon with sizes, which are whole numbers from 0 on: lists of limbs, the lowest first, noughts on top among them.

// mostOver is how much a guessed limb is too great at most.
const mostOver = 2

// quotient is a over b cut off, and the rest, both in new memory; b has no nought on top.
func quotient(a, b []uint64) ([]uint64, []uint64) {
	rest := make([]uint64, len(a)+1)
	copy(rest, a)
	limbs := make([]uint64, max(0, len(a)-len(b)+1))
next:
	for i := range len(limbs) {
		place := len(limbs) - 1 - i
		// What the limbs above have left of it is below b, one limb up: so the limb of the quotient is one.
		part := rest[place : place+len(b)+1]
		guess := guessed(part, b)
		owed := takeOffTimes(part, b, guess)
		for over := range uint64(mostOver + 1) {
			if owed == 0 {
				limbs[place] = guess - over
				continue next
			}
			owed -= putBack(part, b)
		}
	}
	return limbs, rest
}

// guessed is what the highest limbs tell of part over b, which is one limb: that limb, or up to mostOver more. Part has a limb more than b.
func guessed(part, b []uint64) uint64 {
	// Let both be shifted up until b's highest bit is set, and be p and d over 2^64 to the power top. As d is at least head, the limb q is not above the floor of p / head, which is told, or the greatest limb, if it is above that. And p is below (q + 1) d, d below head + 1, q + 1 at most 2^64, head at least 2^63: so p / head is below q + 1 + (q + 1) / head, which is at most q + 3.
	top := len(b) - 1
	up := bits.LeadingZeros64(b[top])
	head := shiftedUp(b, top, up)
	high, low := shiftedUp(part, top+1, up), shiftedUp(part, top, up)
	if high >= head {
		return math.MaxUint64
	}
	guess, _ := bits.Div64(high, low, head)
	return guess
}

// shiftedUp is the limb that stands at a place of a size once it is shifted up by less than a limb.
func shiftedUp(size []uint64, place, up int) uint64 {
	limb := size[place] << up
	if place > 0 {
		// Shifted by 64, where up is 0, nothing is left of a limb.
		limb |= size[place-1] >> (64 - up)
	}
	return limb
}

// takeOffTimes takes so many times a size off one that has a limb more, in place, and tells what is borrowed from above the top: 1, if it was below.
func takeOffTimes(from, size []uint64, times uint64) uint64 {
	owed := uint64(0)
	for i := range len(size) {
		// The product and what is owed are at most 2^128 - 2^64 together: so one limb takes what is carried and what is borrowed.
		high, low := bits.Mul64(size[i], times)
		low, carried := bits.Add64(low, owed, 0)
		left, borrowed := bits.Sub64(from[i], low, 0)
		from[i], owed = left, high+carried+borrowed
	}
	top := len(size)
	left, borrowed := bits.Sub64(from[top], owed, 0)
	from[top] = left
	return borrowed
}

// putBack puts a size to one that has a limb more, in place, and tells what is carried off the top.
func putBack(to, size []uint64) uint64 {
	carried := uint64(0)
	for i := range len(size) {
		to[i], carried = bits.Add64(to[i], size[i], carried)
	}
	top := len(size)
	to[top], carried = bits.Add64(to[top], 0, carried)
	return carried
}

// trimmed is the size without the noughts on top, in the same memory.
func trimmed(size []uint64) []uint64 {
	n := len(size)
	for n > 0 && size[n-1] == 0 {
		n--
	}
	return size[:n]
}
