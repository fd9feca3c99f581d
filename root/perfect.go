package root

import "rosette/api"

// spare is how many bits above those of a root must be noughts, at least, till its power is reckoned.
const spare = 32

// greatestPower is the size of which a size of so many bits, 2 or more, is a power, and the greatest n for that, or the greatest odd one.
func greatestPower(size api.Int, length int, odd bool) (api.Int, int) {
	power := 1
	try := trying(size)
	// The root for an n that others make up is the root of their roots: so primes are tried alone, each as often as it holds. A root that is no power by a prime has no root that is one.
	struck := make([]bool, length)
	for n := range length {
		if n < 2 || struck[n] {
			continue
		}
		strike(struck, n)
		if odd && n == 2 {
			continue
		}
		for root, whole := try(n); whole; root, whole = try(n) {
			size, power, try = root, power*n, trying(root)
		}
	}
	return size, power
}

// strike marks the multiples of n, but not n itself.
func strike(struck []bool, n int) {
	for multiple := 2 * n; multiple < len(struck); multiple += n {
		struck[multiple] = true
	}
}

// trying tells of a size, 2 or more, at each prime n whether it is a power by n, and of what.
func trying(size api.Int) func(n int) (api.Int, bool) {
	twos := lowNoughts(size.Mag)
	odd := shifted(size, -twos)
	length := bitsOf(odd)
	// No n that goes by the lowest limbs is below 3: so for none of them more limbs are asked for.
	inverse := lowRoot(odd.Mag, 1, lowLimbs(rootBits(length, 3)))
	return func(n int) (api.Int, bool) {
		if twos%n != 0 {
			return api.Int{}, false
		}
		root, whole := api.Int{}, false
		if n == 2 {
			root, whole = squareRoot(odd)
		} else {
			root, whole = oddRoot(odd, inverse, n, rootBits(length, n))
		}
		if !whole {
			return api.Int{}, false
		}
		return shifted(root, twos/n), true
	}
}

// squareRoot is the number whose square a number is, and whether there is one.
func squareRoot(a api.Int) (api.Int, bool) {
	root, rest, _ := Square(a)
	return root, len(rest.Mag) == 0
}

// oddRoot is the number of count bits whose n-th power an odd number is, and whether there is one; n is odd. Inverse is the list of lowest limbs that makes 1 with the number.
func oddRoot(odd api.Int, inverse []uint64, n, count int) (api.Int, bool) {
	// The lowest limbs of a root hang on those of its power alone. They are reckoned much sooner than a power, and are hardly ever of so few bits by chance.
	limbs := lowLimbs(count)
	root := lowest(lowRoot(inverse, n, limbs), limbs)
	if bitsOf(root) != count {
		return api.Int{}, false
	}
	return root, comparePower(root, n, odd) == 0
}

// lowLimbs is how many limbs hold so many bits and the spare ones.
func lowLimbs(count int) int {
	return (count + spare + 63) / 64
}
