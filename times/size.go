package times

import (
	"math/bits"
	"slices"
)

// The functions of this file reckon with sizes, which are whole numbers from 0 on: lists of limbs, the lowest first, noughts on top among them.

// way is how two sizes are multiplied. What it tells is new, and has as many limbs as both together.
type way func(a, b []uint64) []uint64

// byLimbs is the product, limb by limb.
func byLimbs(a, b []uint64) []uint64 {
	if len(a) < len(b) {
		// Few long runs are quicker than many short ones.
		a, b = b, a
	}
	size := make([]uint64, len(a)+len(b))
	for i := range len(b) {
		size[i+len(a)] = putTimes(size[i:i+len(a)], a, b[i])
	}
	return size
}

// halving is the way that goes by halves, and with those by itself, down to so many limbs (1 or more) of the shorter factor; from there limb by limb.
func halving(down int) way {
	var next way
	next = func(a, b []uint64) []uint64 {
		if min(len(a), len(b)) <= down {
			return byLimbs(a, b)
		}
		return byHalves(a, b, next)
	}
	return next
}

// byHalves is the product by those of halves, with which the way that is handed on goes on. The longer size has 2 limbs or more.
func byHalves(a, b []uint64, next way) []uint64 {
	if len(a) < len(b) {
		a, b = b, a
	}
	half := (len(a) + 1) / 2
	if len(b) > half {
		return byThree(a, b, half, next)
	}
	// The shorter one is no longer than a half: it goes whole with either.
	size := append(next(a[:half], b), make([]uint64, len(a)-half)...)
	put(size[half:], next(a[half:], b))
	return size
}

// byThree is the product by three of halves. Both sizes are longer than the lower half, and no longer than twice that.
func byThree(a, b []uint64, half int, next way) []uint64 {
	low, high := next(a[:half], b[:half]), next(a[half:], b[half:])
	first, firstBelow := apart(a[:half], a[half:])
	second, secondBelow := apart(b[:half], b[half:])
	cross := next(first, second)
	size := slices.Concat(low, high)
	// The products across are low and high, less that of both differences. What goes off the top on the way there comes back, as the product has room.
	put(size[half:], low)
	put(size[half:], high)
	if firstBelow == secondBelow {
		takeOff(size[half:], cross)
	} else {
		put(size[half:], cross)
	}
	return size
}

// apart is how far two sizes are apart, of which the first is at least as long as the second, and whether it is below it.
func apart(a, b []uint64) ([]uint64, bool) {
	size := slices.Clone(a)
	if takeOff(size, b) == 0 {
		return size, false
	}
	turnAbout(size)
	return size, true
}

// put puts a size to one that is at least as long, in place. What is carried off the top is lost.
func put(to, size []uint64) {
	carried := uint64(0)
	for i := range len(size) {
		to[i], carried = bits.Add64(to[i], size[i], carried)
	}
	rest := to[len(size):]
	for i := range len(rest) {
		if carried == 0 {
			return
		}
		rest[i], carried = bits.Add64(rest[i], 0, carried)
	}
}

// putTimes puts so many times a size to one that is as long, in place, and tells what is carried off the top.
func putTimes(to, size []uint64, times uint64) uint64 {
	carried := uint64(0)
	to = to[:len(size)]
	for i := range len(size) {
		// All together are at most 2^128 - 1: so the high limb takes both carries.
		high, low := bits.Mul64(size[i], times)
		low, first := bits.Add64(low, carried, 0)
		low, second := bits.Add64(low, to[i], 0)
		to[i], carried = low, high+first+second
	}
	return carried
}

// takeOff takes a size off one that is at least as long, in place, and tells what is borrowed from above the top: 1, if it was below.
func takeOff(from, size []uint64) uint64 {
	borrowed := uint64(0)
	for i := range len(size) {
		from[i], borrowed = bits.Sub64(from[i], size[i], borrowed)
	}
	rest := from[len(size):]
	for i := range len(rest) {
		if borrowed == 0 {
			return 0
		}
		rest[i], borrowed = bits.Sub64(rest[i], 0, borrowed)
	}
	return borrowed
}

// turnAbout makes of a size, in place, what it lacks to one limb more: of a difference that has borrowed, its own size.
func turnAbout(size []uint64) {
	borrowed := uint64(0)
	for i := range len(size) {
		size[i], borrowed = bits.Sub64(0, size[i], borrowed)
	}
}

// trimmed is the size without the noughts on top, in the same memory.
func trimmed(size []uint64) []uint64 {
	n := len(size)
	for n > 0 && size[n-1] == 0 {
		n--
	}
	return size[:n]
}
