package root

import (
	"math/bits"

	"rosette/api"
	"rosette/times"
)

// The functions of this file reckon with the lowest limbs of whole numbers alone: lists of limbs, the lowest first, noughts on top among them. What stands above the limbs that are asked for is left out.

// lowRoot is the one list of so many limbs whose n-th power, times a number, is 1. The number, and n, are odd.
func lowRoot(odd []uint64, n, limbs int) []uint64 {
	if limbs == 1 {
		return []uint64{limbRoot(odd[0], n)}
	}
	half := (limbs + 1) / 2
	low := lowRoot(odd, n, half)
	// With the lower half, w being one limb above it, that is 1 + d w; so with low (1 - d w / n) it is 1, as the squares of w fall off the top.
	one := lowProduct(odd, lowPower(low, n, limbs), limbs)
	high := lowProduct(low, lowQuotient(one[half:], n), limbs-half)
	turnAbout(high)
	return append(low, high...)
}

// limbRoot is lowRoot for one limb.
func limbRoot(odd uint64, n int) uint64 {
	// Each odd limb to the power 2^62 is 1: so the power by what is 1 over n, in limbs, is a root for n.
	square, by := limbInverse(odd), limbInverse(uint64(n))
	power := uint64(1)
	for i := range 64 {
		if by>>i&1 == 1 {
			power *= square
		}
		square *= square
	}
	return power
}

// limbInverse is the limb that makes 1 with an odd one.
func limbInverse(odd uint64) uint64 {
	// An odd limb is its own inverse in the 3 lowest bits, and each round makes twice as many right: 96 at last.
	inverse := odd
	for range 5 {
		inverse *= 2 - odd*inverse
	}
	return inverse
}

// lowPower is a list to the power n.
func lowPower(size []uint64, n, limbs int) []uint64 {
	power := []uint64{1}
	length := bits.Len(uint(n))
	for i := range length {
		power = lowProduct(power, power, limbs)
		if n>>(length-1-i)&1 == 1 {
			power = lowProduct(power, size, limbs)
		}
	}
	return power
}

// lowProduct is the product of two lists.
func lowProduct(a, b []uint64, limbs int) []uint64 {
	// The roots for 3 of numbers of MaxLimbs limbs, and so all lists here, are shorter than half of that: so no product is too long.
	product, _ := times.Mul(lowest(a, limbs), lowest(b, limbs))
	size := make([]uint64, limbs)
	copy(size, product.Mag)
	return size
}

// lowQuotient is the list that makes another one with n, which is odd.
func lowQuotient(size []uint64, n int) []uint64 {
	inverse := limbInverse(uint64(n))
	quotient := make([]uint64, len(size))
	owed := uint64(0)
	for i := range len(size) {
		left, borrowed := bits.Sub64(size[i], owed, 0)
		quotient[i] = left * inverse
		// The low limb of the product is what is left, and the high one is below n.
		high, _ := bits.Mul64(quotient[i], uint64(n))
		owed = high + borrowed
	}
	return quotient
}

// lowest is the whole number of the lowest limbs of a list, in the same memory.
func lowest(size []uint64, limbs int) api.Int {
	n := min(limbs, len(size))
	for n > 0 && size[n-1] == 0 {
		n--
	}
	return api.Int{Mag: size[:n]}
}

// lowNoughts is how many noughts stand below the lowest bit of a size that is set; one is.
func lowNoughts(size []uint64) int {
	place := 0
	for size[place] == 0 {
		place++
	}
	return 64*place + bits.TrailingZeros64(size[place])
}

// turnAbout makes of a list, in place, 0 less that.
func turnAbout(size []uint64) {
	borrowed := uint64(0)
	for i := range len(size) {
		size[i], borrowed = bits.Sub64(0, size[i], borrowed)
	}
}
