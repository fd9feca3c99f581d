package root_test

import (
	"math/big"
	"math/rand"
	"testing"

	"rosette/api"
)

// libraryRoot is the root of a, which is not below 0, for n, bit by bit.
func libraryRoot(a *big.Int, n int) *big.Int {
	r := new(big.Int)
	for bit := a.BitLen() / n; bit >= 0; bit-- {
		r.SetBit(r, bit, 1)
		if order(r, n, a) > 0 {
			r.SetBit(r, bit, 0)
		}
	}
	return r
}

// libraryPerfect is what Perfect must tell, by looking at every n from the greatest on.
func libraryPerfect(a *big.Int) (*big.Int, int) {
	size := new(big.Int).Abs(a)
	if size.BitLen() < 2 {
		return a, 1
	}
	for n := size.BitLen(); n > 1; n-- {
		if r := libraryRoot(size, n); (a.Sign() > 0 || n%2 == 1) && order(r, n, size) == 0 {
			if a.Sign() < 0 {
				r.Neg(r)
			}
			return r, n
		}
	}
	return a, 1
}

// perfectAgainst holds Perfect against the library, at both signs.
func perfectAgainst(t *testing.T, a api.Int) {
	t.Helper()
	for _, x := range []api.Int{a, about(a)} {
		b, n := libraryPerfect(valueOf(x))
		holdPerfect(t, x, rightOf(b), n, api.OK)
	}
}

// oddPart is n over the greatest power of two that divides it.
func oddPart(n int) int {
	for n%2 == 0 {
		n /= 2
	}
	return n
}

// holdPowerOf holds Perfect at b^n, of both signs; b is above 1, and no power itself.
func holdPowerOf(t *testing.T, b api.Int, n int) {
	t.Helper()
	a := rightOf(raised(b, n))
	holdPerfect(t, a, b, n, api.OK)
	holdPerfect(t, about(a), about(rightOf(raised(b, n/oddPart(n)))), oddPart(n), api.OK)
}

// noPowers are numbers above 1 that are no powers: primes, and others in which primes stand unlike often.
func noPowers() []api.Int {
	l := []api.Int{}
	for _, n := range []int64{2, 3, 5, 6, 7, 10, 12, 15, 18, 20, 24, 40, 48, 72, 97, 108, 200, 500, 2000, 65537, 1<<31 - 1, 1<<61 - 1, 3 << 40, 1e18 * 7} {
		l = append(l, small(n))
	}
	// Next to a power of two above 9 there is no power, and 2^89 - 1 is a prime.
	return append(l, plus(ones), plus(1, 1), plus(1, 0, 1), full(3), more(two(89), -1), rightOf(new(big.Int).Lsh(valueOf(more(two(89), -1)), 70)))
}

// P18.3: all small numbers, by looking at every n.
func TestPerfectSmalls(t *testing.T) {
	t.Parallel()
	for a := range int64(3000) {
		perfectAgainst(t, small(a))
	}
	// 2^k and what stands next to it, up to two limbs.
	for k := 12; k < 130; k++ {
		for by := int64(-1); by <= 1; by++ {
			perfectAgainst(t, more(two(k), by))
		}
	}
}

// P18.3: 0, 1 and -1 are told themselves and 1, though they are powers by greater n.
func TestPerfectNoughtAndOne(t *testing.T) {
	for n := int64(-1); n <= 1; n++ {
		holdPerfect(t, small(n), small(n), 1, api.OK)
	}
}

// P18.3: powers of what is no power, by many n, of both signs.
func TestPerfectPowers(t *testing.T) {
	t.Parallel()
	for _, b := range noPowers() {
		for n := 1; n <= 66; n++ {
			holdPowerOf(t, b, n)
		}
		for _, n := range []int{81, 97, 100, 121, 125, 128, 180, 243, 256, 343, 360, 509} {
			holdPowerOf(t, b, n)
		}
	}
}

// P18.3: every power of 2 up to 700, and the ones of most limbs.
func TestPerfectPowersOfTwo(t *testing.T) {
	t.Parallel()
	for n := 1; n <= 700; n++ {
		holdPowerOf(t, plus(2), n)
	}
	for _, n := range []int{262143, 262142, 262140, 262139, 262080, 1 << 17, 3 << 16} {
		holdPowerOf(t, plus(2), n)
	}
}

// P18.3: powers of drawn numbers, which may be powers themselves, against the library.
func TestPerfectDrawn(t *testing.T) {
	t.Parallel()
	r := rand.New(rand.NewSource(1811))
	for range 150 {
		perfectAgainst(t, sizeOf(drawn(r, 1+r.Intn(5))))
		b := small(2 + r.Int63n(1<<(1+r.Intn(20))))
		perfectAgainst(t, rightOf(raised(b, 1+r.Intn(12))))
		b = sizeOf(drawn(r, 1))
		perfectAgainst(t, rightOf(raised(b, 1+r.Intn(4))))
	}
}

// P18.3: one more and one less than a power, by 2 or more, is no power, but for 8 and 9; of these -9 is none.
func TestPerfectNextToPowers(t *testing.T) {
	t.Parallel()
	r := rand.New(rand.NewSource(1812))
	bases := append(noPowers(), sizeOf(drawn(r, 7)), sizeOf(drawn(r, 10)))
	for _, b := range bases {
		for _, n := range []int{2, 3, 4, 5, 6, 7, 11, 13, 16, 30, 31, 64} {
			p := rightOf(raised(b, n))
			for _, a := range []api.Int{more(p, -1), more(p, 1)} {
				if !same(a, plus(8)) && !same(a, plus(9)) {
					holdPerfect(t, a, a, 1, api.OK)
				}
				if !same(a, plus(8)) {
					holdPerfect(t, about(a), about(a), 1, api.OK)
				}
			}
		}
	}
	holdPerfect(t, plus(8), plus(2), 3, api.OK)
	holdPerfect(t, less(8), less(2), 3, api.OK)
	holdPerfect(t, plus(9), plus(3), 2, api.OK)
	holdPerfect(t, less(9), less(9), 1, api.OK)
}

// P18.3: numbers that have the lowest limbs of a power, and as many bits, but other limbs above; and those that have its highest ones.
func TestPerfectLookAlikes(t *testing.T) {
	t.Parallel()
	for _, b := range []api.Int{plus(1<<40 + 15), plus(1<<63 + 29), plus(77, 1<<50), plus(5, 6, 7)} {
		for _, n := range []int{2, 3, 5, 7, 9} {
			p := raised(b, n)
			for bit := 64; bit < p.BitLen()-2; bit += 64 {
				a := new(big.Int).SetBit(p, bit, 1-p.Bit(bit))
				perfectAgainst(t, rightOf(a))
			}
		}
	}
}

// P18.3: numbers whose lowest limbs are those of 1, of -1 and of small powers, at all n.
func TestPerfectLowLimbs(t *testing.T) {
	t.Parallel()
	for _, low := range []int64{-1, 1, 3, 8, 9, 27, -27, 81, 243, -243, 1 << 30} {
		for _, high := range []api.Int{two(400), two(401), two(600), plus(0, 0, 0, 0, 3, 5, 7)} {
			perfectAgainst(t, more(high, low))
		}
	}
}

// inverseOf is the limb that makes 1 with n, which is odd.
func inverseOf(n int) uint64 {
	limbs := new(big.Int).Lsh(big.NewInt(1), 64)
	return new(big.Int).ModInverse(big.NewInt(int64(n)), limbs).Uint64()
}

// P18.3: roots with limbs that come, n times, next to a multiple of 2 to the power 64: what is carried from one to the other just goes on, or just does not.
func TestPerfectCarries(t *testing.T) {
	t.Parallel()
	for _, n := range []int{3, 5, 7, 31, 101} {
		up := inverseOf(n)
		for _, one := range []uint64{up - 2, up - 1, up, up + 1, -up - 1, -up, -up + 1, ones / uint64(n), ones/uint64(n) + 1, 0, 1, ones - 1, ones} {
			for noughts := range 4 {
				low := append([]uint64{1}, make([]uint64, noughts)...)
				for _, high := range [][]uint64{{one, 1}, {1, one, 1}, {ones, one, 1}, {1, one, one, 1}, {1, one, 0, one, 5}} {
					// The lower half of this is 1 and noughts: so its power has above them n times the limbs of the higher half.
					b := plus(append(low[:len(low):len(low)], high...)...)
					want, m := libraryPerfect(valueOf(b))
					holdPerfect(t, rightOf(raised(b, n)), rightOf(want), n*m, api.OK)
				}
			}
		}
	}
}

// P18.3: even numbers, in which 2 stands as often as n asks for or not.
func TestPerfectEven(t *testing.T) {
	t.Parallel()
	for _, odd := range []int64{3, 9, 27, 81, 243, 729, 15625, 3 * 27, 59049} {
		for twos := range uint(70) {
			perfectAgainst(t, rightOf(new(big.Int).Lsh(big.NewInt(odd), twos)))
		}
	}
}

// P18.3: numbers of 4096 limbs, or nearly so: powers by great and small n, the greatest number, drawn ones.
func TestPerfectLongs(t *testing.T) {
	t.Parallel()
	for _, c := range []struct {
		b api.Int
		n int
	}{
		{plus(3), 165393}, {plus(3), 1 << 17}, {plus(3), 165391}, {plus(10), 78000}, {plus(6), 101333}, {full(1), 4096}, {full(1), 4095}, {full(2), 2048}, {full(3), 1365}, {full(1365), 3}, {full(2048), 2}, {full(819), 5}, {full(45), 91}, {full(4095), 1},
	} {
		holdPowerOf(t, c.b, c.n)
	}
	top := full(api.MaxLimbs)
	holdPerfect(t, top, top, 1, api.OK)
	holdPerfect(t, about(top), about(top), 1, api.OK)
	// 3 does not divide 2^64 - 3, and a number in which it stands once is no power.
	a := rightOf(new(big.Int).Mul(raised(plus(ones-2), 4000), big.NewInt(3)))
	holdPerfect(t, a, a, 1, api.OK)
	for _, by := range []int64{-1, 1} {
		p := more(rightOf(raised(full(1300), 3)), by)
		holdPerfect(t, p, p, 1, api.OK)
	}
	// Above 7! there is no factorial up to that of 20000 to which 1 makes a power; its lowest limbs are those of 1, which is a power by all n.
	f := new(big.Int).MulRange(1, 20000)
	p := rightOf(f.Add(f, big.NewInt(1)))
	holdPerfect(t, p, p, 1, api.OK)
}
