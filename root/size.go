package root

import (
	"math/bits"

	"rosette/api"
	"rosette/divide"
	"rosette/limb"
	"rosette/times"
)

// The functions of this file reckon with right whole numbers from 0 on. Where they leave an error out, what is told is not too long, as stands beside it.

// sizeRoot is the root of a for n, which is 2 or more: one step from the root of a's highest bits.
func sizeRoot(a api.Int, n int) api.Int {
	count := rootBits(bitsOf(a), n)
	// 2 to the power margin is at least n.
	margin := bits.Len(uint(n - 1))
	half := (count - margin) / 2
	if half < 1 {
		return bitByBit(a, n, count)
	}
	rough := sizeRoot(shifted(a, -n*half), n)
	// With the true root t, which is at least 2^(count-1): rough 2^half is not above t, and near is, by at most 2^half. As count is at least margin + 2, rough has more bits than margin, and is n or more: so near to the power n is at most (1 + 1/n)^n < 3 times a. And near is at least 2 (n + 1): so it is above 3, and near to the power n - 1 is 3 n or more. So that power is below a, and n near, too.
	near := shifted(plusOne(rough), half)
	// A step from t (1 + d) leads to t or above it by at most t d d (n - 1) / 2. Here t d is at most 2^half, and so that is at most (n - 1) 2^(2 half - count), which is below 1, as 2 half is at most count - margin.
	root := step(a, near, n)
	if comparePower(root, n, a) > 0 {
		root, _ = limb.Sub(root, limb.Of(1))
	}
	return root
}

// rootBits is how many bits the root for n has of a number that has so many: 1, too, where the number is 0.
func rootBits(length, n int) int {
	return (length-1)/n + 1
}

// bitByBit is the root of a for n, which has no more than count bits; these are so few that n makes a step from any of them too short.
func bitByBit(a api.Int, n, count int) api.Int {
	root := int64(0)
	for i := range count {
		next := root | 1<<(count-1-i)
		if comparePower(limb.Of(next), n, a) <= 0 {
			root = next
		}
	}
	return limb.Of(root)
}

// step is the floor of (n - 1 times x, and a over x to the power n - 1), over n. The true root is not above x, so that the quotient is not, and all that is put together is at most n x; neither this nor the power is above a: so nothing is too long.
func step(a, x api.Int, n int) api.Int {
	power, _ := times.Power(x, n-1)
	quotient, _, _ := divide.Floor(a, power)
	rest, _ := times.Mul(x, limb.Of(int64(n-1)))
	all, _ := limb.Add(rest, quotient)
	mean, _, _ := divide.Floor(all, limb.Of(int64(n)))
	return mean
}

// comparePower is -1, 0 or 1: x to the power n is below a, a itself, above it. A power that is too long is above.
func comparePower(x api.Int, n int, a api.Int) int {
	power, e := times.Power(x, n)
	if e != api.OK {
		return 1
	}
	order, _ := limb.Cmp(power, a)
	return order
}

// bitsOf is how many bits a right number has.
func bitsOf(x api.Int) int {
	length, _ := limb.Bits(x)
	return length
}

// shifted is x times 2 to the power by, rounded down, which must not be too long.
func shifted(x api.Int, by int) api.Int {
	y, _ := limb.Shift(x, by)
	return y
}

// plusOne is one more than a root for 2 or more: so it is not too long.
func plusOne(x api.Int) api.Int {
	y, _ := limb.Add(x, limb.Of(1))
	return y
}
