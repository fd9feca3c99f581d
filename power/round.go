package power

import (
	"rosette/api"
	"rosette/divide"
	"rosette/limb"
	"rosette/times"
)

// A round reckons modulo m, with the numbers from 0 to m - 1. Where products of these may be too long, half is how many limbs half of m has, rounded down; else it is 0. To raise a number is to multiply it by 2^(64 half).
type round struct {
	m    api.Int
	half int
	// above is what m has from half on, and 1; raised it is over more than m, and so alike over.
	above, over api.Int
}

// roundOf is the round of a number above 0.
func roundOf(m api.Int) round {
	r := round{m: m}
	if 2*len(m.Mag) <= api.MaxLimbs {
		return r
	}
	r.half = len(m.Mag) / 2
	upper, lower := r.halves(m)
	r.above, _ = limb.Add(upper, limb.Of(1))
	r.over, _ = limb.Sub(r.up(limb.Of(1)), lower)
	return r
}

// isOne tells whether x is 1 modulo m.
func (r round) isOne(x api.Int) bool {
	return isOne(x) || isOne(r.m)
}

// power is x to the power of e's size.
func (r round) power(x, e api.Int) api.Int {
	power, _ := divide.Mod(limb.Of(1), r.m)
	length, _ := limb.Bits(e)
	for i := range length {
		place := length - 1 - i
		power = r.times(power, power)
		if e.Mag[place/64]>>(place%64)&1 == 1 {
			power = r.times(power, x)
		}
	}
	return power
}

// times is x times y.
func (r round) times(x, y api.Int) api.Int {
	if r.half == 0 {
		return r.product(x, y)
	}
	// Both upper halves together have no more limbs than m, or one more, if those of m are odd in number: so no product of halves is too long.
	xUpper, xLower := r.halves(x)
	yUpper, yLower := r.halves(y)
	z := r.raised(r.product(xUpper, yUpper))
	z = r.sum(z, r.product(xUpper, yLower))
	z = r.sum(z, r.product(xLower, yUpper))
	return r.sum(r.raised(z), r.product(xLower, yLower))
}

// raised is x raised.
func (r round) raised(x api.Int) api.Int {
	// As x is below m, which is below above raised, the quotient is below 1 raised, and over is not above that; the rest has no more limbs than m from half on. So nothing is too long.
	quotient, rest, _ := divide.Trunc(x, r.above)
	rest, _ = divide.Mod(r.up(rest), r.m)
	return r.sum(r.product(quotient, r.over), rest)
}

// product is the product of two numbers from 0 on, which must not be too long.
func (r round) product(x, y api.Int) api.Int {
	z, _ := times.Mul(x, y)
	z, _ = divide.Mod(z, r.m)
	return z
}

// sum is x and y.
func (r round) sum(x, y api.Int) api.Int {
	// The sum by itself may be too long: what y is less than m is taken off.
	y, _ = limb.Sub(r.m, y)
	z, _ := limb.Sub(x, y)
	z, _ = divide.Mod(z, r.m)
	return z
}

// up is a number from 0 on raised as it is, which must not be too long.
func (r round) up(x api.Int) api.Int {
	x, _ = limb.Shift(x, 64*r.half)
	return x
}

// halves are what a number from 0 on has from half on, and what it has below, in the same memory.
func (r round) halves(x api.Int) (api.Int, api.Int) {
	at := min(r.half, len(x.Mag))
	lower := x.Mag[:at]
	for len(lower) > 0 && lower[len(lower)-1] == 0 {
		lower = lower[:len(lower)-1]
	}
	return api.Int{Mag: x.Mag[at:]}, api.Int{Mag: lower}
}
