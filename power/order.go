package power

import (
	"rosette/api"
	"rosette/limb"
	"rosette/times"
)

// allOf is the product of all primes, which are right, each to its power.
func allOf(primes []api.Int, powers []int) (api.Int, api.Errno) {
	if len(primes) != len(powers) {
		return api.Int{}, api.ErrShape
	}
	for i, prime := range primes {
		if order, _ := limb.Cmp(prime, limb.Of(2)); order < 0 || powers[i] < 0 || powers[i] > mostTimes {
			return api.Int{}, api.ErrArg
		}
	}
	return product(primes, powers)
}

// product is the product of all primes, each to its power; where a part of it is too long, so is the whole, as no factor is 0.
func product(primes []api.Int, powers []int) (api.Int, api.Errno) {
	switch len(primes) {
	case 0:
		return limb.Of(1), api.OK
	case 1:
		return times.Power(primes[0], powers[0])
	}
	half := len(primes) / 2
	first, err := product(primes[:half], powers[:half])
	if err != api.OK {
		return api.Int{}, err
	}
	second, err := product(primes[half:], powers[half:])
	if err != api.OK {
		return api.Int{}, err
	}
	return times.Mul(first, second)
}

// left is what is left of the product of all primes, to the power of which x is 1, once each in order is taken out as often as that stays so.
func (r round) left(x api.Int, primes []api.Int, powers []int) api.Int {
	switch len(primes) {
	case 0:
		return limb.Of(1)
	case 1:
		return r.leastPower(x, primes[0], powers[0])
	}
	// While primes of the first half are taken out all of the second one is still in; while those of the second are, what is left of the first: so each half has to see x to the power of the other alone. None of these is longer than the product.
	half := len(primes) / 2
	behind, _ := product(primes[half:], powers[half:])
	first := r.left(r.power(x, behind), primes[:half], powers[:half])
	second := r.left(r.power(x, first), primes[half:], powers[half:])
	both, _ := times.Mul(first, second)
	return both
}

// leastPower is the least power of a prime to the power of which x is 1; to the power most of it x is. Once x is 1 it stays so: one who goes down from most comes to the same.
func (r round) leastPower(x, prime api.Int, most int) api.Int {
	power := limb.Of(1)
	for range most {
		if r.isOne(x) {
			break
		}
		x = r.power(x, prime)
		power, _ = times.Mul(power, prime)
	}
	return power
}
