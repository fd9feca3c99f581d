package cut

import (
	"iter"
	"slices"

	"rosette/api"
)

// pieces hands on the size of x, cut into pieces of so many bits, the lowest first, each with the sign of x.
func pieces(x api.Int, bits int) iter.Seq[int64] {
	return func(yield func(int64) bool) {
		// at is where the next piece begins, counted from the limb that is gone through.
		at := 0
		for i := range len(x.Mag) {
			low, high := x.Mag[i], limbAt(x.Mag, i+1)
			for ; at < 64; at += bits {
				// A piece may lie across two limbs; where it does not the mask takes off what is shifted in.
				piece := int64((low>>at | high<<(64-at)) & (1<<bits - 1))
				if x.Neg {
					piece = -piece
				}
				if !yield(piece) {
					return
				}
			}
			at -= 64
		}
	}
}

// limbAt is the limb at a place; behind the end there are noughts.
func limbAt(m []uint64, place int) uint64 {
	if place >= len(m) {
		return 0
	}
	return m[place]
}

// settled hands on the digits, from least up to least + 2^bits - 1, of the number that the numbers sum up to, so many bits apart. With a least of 0 that must not be below 0, or the digits would have no end.
func settled(numbers iter.Seq[int64], bits int, least int64) iter.Seq[int64] {
	return func(yield func(int64) bool) {
		mask := int64(1)<<bits - 1
		carried := int64(0)
		digit := func(v int64) int64 {
			// The high and the low bits are put together by themselves, as the whole of both could wrap.
			low := v&mask + carried&mask - least
			carried = v>>bits + carried>>bits + low>>bits
			return low&mask + least
		}
		for v := range numbers {
			if !yield(digit(v)) {
				return
			}
		}
		for carried != 0 {
			if !yield(digit(0)) {
				return
			}
		}
	}
}

// row is the digits, as the chapter has them, of the number that the numbers sum up to, so many bits apart.
func row(numbers iter.Seq[int64], bits int) []int64 {
	return trimmed(slices.Collect(settled(numbers, bits, -1<<(bits-1))))
}

// turnAbout changes each digit's sign in place. The least digit, too, is far from the least int64.
func turnAbout(digits []int64) {
	for i := range digits {
		digits[i] = -digits[i]
	}
}

// packed is the size, without noughts on top, of the number that digits sum up to, so many bits apart: one not below 0, so that there are no more pieces than digits.
func packed(digits []int64, bits int) []uint64 {
	// A last piece may end at a limb's edge, and what goes over is written nonetheless.
	size := make([]uint64, len(digits)*bits/64+2)
	at := 0
	for piece := range settled(slices.Values(digits), bits, 0) {
		place, by := at/64, at%64
		size[place] |= uint64(piece) << by
		size[place+1] |= uint64(piece) >> (64 - by)
		at += bits
	}
	return trimmed(size)
}

// trimmed is the list without the noughts at its end, in the same memory.
func trimmed[T int64 | uint64](l []T) []T {
	n := len(l)
	for n > 0 && l[n-1] == 0 {
		n--
	}
	return l[:n]
}
