package power

import (
	"math/bits"

	"rosette/api"
	"rosette/divide"
	"rosette/limb"
)

// symbol is the symbol of Jacobi of a number from 0 on over an odd one above 0.
func symbol(a, m api.Int) int {
	sign := 1
rests:
	for {
		for place, l := range a.Mag {
			if l == 0 {
				continue
			}
			twos := 64*place + bits.TrailingZeros64(l)
			a, _ = limb.Shift(a, -twos)
			if turns(twos, a.Mag[0], m.Mag[0]) {
				sign = -sign
			}
			rest, _ := divide.Mod(m, a)
			a, m = rest, a
			continue rests
		}
		// Nothing is left of a: m is the greatest common divisor.
		if isOne(m) {
			return sign
		}
		return 0
	}
}

// turns tells whether the sign is turned where so many twos are taken out of the upper number, and then both, which are odd, change places; their lowest limbs tell.
func turns(twos int, upper, lower uint64) bool {
	byTwo := lower%8 == 3 || lower%8 == 5
	byChange := upper%4 == 3 && lower%4 == 3
	return (twos%2 == 1 && byTwo) != byChange
}
