package gcd

import (
	"math"
	"math/bits"

	"rosette/api"
	"rosette/limb"
)

// foreseen goes on from the highest bits of two rests, two rows at a time, for as long as these tell the rests' own quotients: so the last two rows say what the next rests are made of. Where the second rest is the greater one it goes on by none.
func foreseen(x, y api.Int) [2]row[uint64] {
	rows := [2]row[uint64]{{made: [2]uint64{1, 0}}, {made: [2]uint64{0, 1}}}
	if order, _ := limb.Cmp(x, y); order < 0 {
		return rows
	}
	top := len(x.Mag) - 1
	up := bits.LeadingZeros64(x.Mag[top])
	rows[0].rest, rows[1].rest = headOf(x.Mag, top, up), headOf(y.Mag, top, up)
	for rows[1].rest > 0 {
		one := following(rows[0], rows[1])
		if one.rest == 0 {
			break
		}
		// Two rows on, the signs are what they were.
		other := following(rows[1], one)
		if !isSure(one, other) {
			break
		}
		rows[0], rows[1] = one, other
	}
	return rows
}

// headOf is the limb that stands at a place of a size once it is shifted up by less than a limb; above its top there are noughts.
func headOf(size []uint64, place, up int) uint64 {
	head := uint64(0)
	if place < len(size) {
		head = size[place] << up
	}
	if 0 < place && place <= len(size) {
		// Shifted by 64, where up is 0, nothing is left of a limb.
		head |= size[place-1] >> (64 - up)
	}
	return head
}

// following is the row that follows two others, whose last rest is not 0.
func following(first, last row[uint64]) row[uint64] {
	quotient := first.rest / last.rest
	next := row[uint64]{rest: first.rest % last.rest}
	// Nothing wraps: made[0] is not above made[1], and made[1] times the last rest not above the head that all began with.
	for i := range next.made {
		next.made[i] = first.made[i] + quotient*last.made[i]
	}
	return next
}

// isSure tells whether a first row and the second one after it follow among the rests, too, of which the heads are.
func isSure(one, other row[uint64]) bool {
	// A head is its rest cut off, by less than 1 of its lowest bit. In other the first head is taken off made[0] times, in one less other the second head made[1] times of both: with so many such bits left, each is above 0 of the rests, too. So other is below one there; and as what one follows is at least once one, and other, one is below that. And as made[1] is below one, and made[1] times one not above a head, it is below 2^32.
	return other.rest >= other.made[0] && one.rest-other.rest >= one.made[1]+other.made[1]
}

// What mix turns about of a limb that is taken off: no bit, as nothing is, or all.
const (
	sums uint64 = 0
	gaps uint64 = math.MaxUint64
)

// mix makes of x and y, in place, what the rows of by say: how often x goes into it, and how often y, each below 2^32. Of gaps, in the first row y is taken off, in the second x, and neither is below 0 then.
func mix(x, y *api.Int, by [2][2]uint64, turn uint64) {
	limbs := max(len(x.Mag), len(y.Mag))
	a, b := padded(x.Mag, limbs), padded(y.Mag, limbs)
	// To take a size off is to put to it the size with all bits turned about, and 1, and to take 1 off above the top.
	yOff, xOff := by[0][1]&turn, by[1][0]&turn
	up, over := yOff, xOff
	for i := range limbs {
		l, m := a[i], b[i]
		a[i], up = sum(l, by[0][0], m^turn, by[0][1], up)
		b[i], over = sum(l^turn, by[1][0], m, by[1][1], over)
	}
	x.Mag, y.Mag = trimmed(append(a, up-yOff)), trimmed(append(b, over-xOff))
}

// sum is the limb of a u + b v and what is carried, and what is carried on: as u and v are below 2^32, that is below 2^33.
func sum(a, u, b, v, carried uint64) (uint64, uint64) {
	high, low := bits.Mul64(a, u)
	more, under := bits.Mul64(b, v)
	low, over := bits.Add64(low, under, 0)
	low, up := bits.Add64(low, carried, 0)
	return low, high + more + over + up
}

// padded is a size with noughts on top, up to so many limbs.
func padded(size []uint64, limbs int) []uint64 {
	for len(size) < limbs {
		size = append(size, 0)
	}
	return size
}

// trimmed is a size without the noughts on top, in the same memory.
func trimmed(size []uint64) []uint64 {
	n := len(size)
	for n > 0 && size[n-1] == 0 {
		n--
	}
	return size[:n]
}
