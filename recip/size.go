package recip

import (
	"math/bits"
	"slices"

	"rosette/api"
)

// The functions of this file reckon with sizes, which are whole numbers from 0 on: lists of limbs, the lowest first, without noughts on top. They may be longer than a right whole number's, as only an answer can be too long.

// piece is how many limbs of each factor are multiplied at a time: two such have a product that is never too long.
const piece = api.MaxLimbs / 2

// pieceAt is the piece of a size from a limb on, as a whole number in the same memory.
func pieceAt(size []uint64, at int) api.Int {
	return api.Int{Mag: trimmed(size[at:min(at+piece, len(size))])}
}

// sum is the sum of two sizes.
func sum(a, b []uint64) []uint64 {
	size := make([]uint64, max(len(a), len(b))+1)
	put(size, a)
	put(size, b)
	return trimmed(size)
}

// difference is a size less one that is not above it.
func difference(a, b []uint64) []uint64 {
	size := slices.Clone(a)
	borrowed := uint64(0)
	for i := range len(size) {
		other := uint64(0)
		if i < len(b) {
			other = b[i]
		}
		size[i], borrowed = bits.Sub64(size[i], other, borrowed)
	}
	return trimmed(size)
}

// below tells whether a is below b.
func below(a, b []uint64) bool {
	if len(a) != len(b) {
		return len(a) < len(b)
	}
	for i, limb := range slices.Backward(a) {
		if limb != b[i] {
			return limb < b[i]
		}
	}
	return false
}

// over is a size over 2^by, rounded up.
func over(size []uint64, by int) []uint64 {
	limbs, within := min(by/64, len(size)), by%64
	low, high := size[:limbs], size[limbs:]
	quotient := make([]uint64, len(high)+1)
	off := slices.ContainsFunc(low, isSet)
	for i, limb := range high {
		quotient[i] |= limb >> within
		// Shifted by 64, where within is 0, nothing is left of a limb.
		down := limb << (64 - within)
		if i > 0 {
			quotient[i-1] |= down
		} else {
			off = off || isSet(down)
		}
	}
	if off {
		put(quotient, []uint64{1})
	}
	return trimmed(quotient)
}

// atMost tells whether a size is not above 2^by.
func atMost(size []uint64, by int) bool {
	return !below([]uint64{1}, over(size, by))
}

// isSet tells whether a limb has bits that are set.
func isSet(limb uint64) bool {
	return limb != 0
}

// put puts a size to a list that has room for the sum, in place.
func put(to, size []uint64) {
	carried := uint64(0)
	for i := range len(size) {
		to[i], carried = bits.Add64(to[i], size[i], carried)
	}
	for i := len(size); carried > 0; i++ {
		to[i], carried = bits.Add64(to[i], 0, carried)
	}
}

// trimmed is the size without the noughts on top, in the same memory.
func trimmed(size []uint64) []uint64 {
	n := len(size)
	for n > 0 && size[n-1] == 0 {
		n--
	}
	return size[:n]
}
