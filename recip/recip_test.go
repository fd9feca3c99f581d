package recip_test

import (
	"encoding/binary"
	"fmt"
	"math"
	"math/big"
	"math/rand"
	"slices"
	"sync"
	"testing"

	"rosette/api"
	"rosette/recip"
)

const (
	ones    = 1<<64 - 1
	maxBits = 64 * api.MaxLimbs
)

func of(neg bool, l ...uint64) api.Int { return api.Int{Neg: neg, Mag: l} }

func plus(l ...uint64) api.Int { return of(false, l...) }

func less(l ...uint64) api.Int { return of(true, l...) }

// about is 0 less x.
func about(x api.Int) api.Int { return of(!x.Neg && len(x.Mag) > 0, x.Mag...) }

// sizeOf is x without its sign.
func sizeOf(x api.Int) api.Int { return plus(x.Mag...) }

func same(a, b api.Int) bool { return a.Neg == b.Neg && slices.Equal(a.Mag, b.Mag) }

// full has so many limbs, all ones: 2^(64 limbs) - 1.
func full(limbs int) api.Int { return plus(slices.Repeat([]uint64{ones}, limbs)...) }

// power is 2^n.
func power(n int) api.Int {
	m := make([]uint64, n/64+1)
	m[n/64] = 1 << (n % 64)
	return plus(m...)
}

// small is n as a whole number.
func small(n int64) api.Int {
	x, _ := rightOf(big.NewInt(n))
	return x
}

// valueOf is what x is, as a whole number of the library.
func valueOf(x api.Int) *big.Int {
	b := make([]byte, 0, 8*len(x.Mag))
	for _, l := range slices.Backward(x.Mag) {
		b = binary.BigEndian.AppendUint64(b, l)
	}
	n := new(big.Int).SetBytes(b)
	if x.Neg {
		n.Neg(n)
	}
	return n
}

// rightOf is the right whole number of n, or ErrLong.
func rightOf(n *big.Int) (api.Int, api.Errno) {
	if n.BitLen() > maxBits {
		return api.Int{}, api.ErrLong
	}
	x := api.Int{Neg: n.Sign() < 0}
	b := new(big.Int).Abs(n).FillBytes(make([]byte, (n.BitLen()+63)/64*8))
	for i := len(b); i > 0; i -= 8 {
		x.Mag = append(x.Mag, binary.BigEndian.Uint64(b[i-8:]))
	}
	return x, api.OK
}

// more is x and n.
func more(x api.Int, n int64) api.Int {
	y, _ := rightOf(new(big.Int).Add(valueOf(x), big.NewInt(n)))
	return y
}

// twoTo is 2^n, as a whole number of the library.
func twoTo(n int) *big.Int { return new(big.Int).Lsh(big.NewInt(1), uint(n)) }

// quotientOf is the reciprocal as the library tells it, or ErrLong.
func quotientOf(d api.Int, bits int) (api.Int, api.Errno) {
	return rightOf(new(big.Int).Quo(twoTo(bits), valueOf(d)))
}

// missing is 2^bits less d r.
func missing(d, r *big.Int, bits int) *big.Int {
	return new(big.Int).Sub(twoTo(bits), new(big.Int).Mul(d, r))
}

// stepOf is the step in the chapter's own words, as the library tells it, or ErrLong.
func stepOf(d, r api.Int, bits int) (api.Int, api.Errno) {
	from := valueOf(r)
	by := missing(valueOf(d), from, bits)
	// The library shifts numbers below 0 down to the floor.
	by.Rsh(by.Mul(by, from), uint(bits))
	return rightOf(by.Add(by, from))
}

// drawn is a right whole number of so many limbs, of either sign, with runs of noughts and of ones.
func drawn(r *rand.Rand, limbs int) api.Int {
	m := make([]uint64, limbs)
	for i := 0; i < limbs; {
		kind, run := r.Intn(7), 1
		if kind < 3 && r.Intn(3) == 0 {
			run = 1 + r.Intn(limbs)
		}
		for ; run > 0 && i < limbs; run-- {
			m[i] = []uint64{0, ones, ones, 1, 1 << 63, r.Uint64(), r.Uint64() >> r.Intn(64)}[kind]
			i++
		}
	}
	if limbs > 0 {
		m[limbs-1] |= 1 << r.Intn(64)
	}
	return of(limbs > 0 && r.Intn(2) == 0, m...)
}

// divisor is a drawn number above 0.
func divisor(r *rand.Rand, limbs int) api.Int { return sizeOf(drawn(r, limbs)) }

// divisors are of few limbs.
func divisors() []api.Int {
	return []api.Int{
		plus(1), plus(2), plus(3), plus(5), plus(7), plus(10), plus(1<<32 - 1), plus(1 << 32), plus(1<<63 - 1), plus(1 << 63), plus(1<<63 + 1), plus(ones - 1), plus(ones),
		plus(0, 1), plus(1, 1), plus(ones, 1), plus(0, ones), plus(ones, 1<<63-1), plus(0, 0, 1), plus(1, 0, 1), plus(ones-1, ones, ones), plus(1<<63, 0, 1<<63), plus(0xaaaaaaaaaaaaaaaa, 0x5555555555555555),
		full(2), full(3), full(7), power(500), power(64 * 7),
	}
}

// wrongs are whole numbers that are not right, each by one fault alone.
func wrongs() []api.Int {
	long := full(api.MaxLimbs + 1)
	return []api.Int{
		{Neg: true}, {Neg: true, Mag: []uint64{}}, {Neg: true, Mag: make([]uint64, 0, 3)}, // no limbs and Neg
		plus(0), less(0), plus(1, 0), less(1, 0), plus(0, 0), plus(ones, ones, 0), plus(append(full(api.MaxLimbs-1).Mag, 0)...), // a 0 on top
		long, about(long), power(maxBits), about(power(maxBits)), full(5000), // limbs
	}
}

// wrongBits are those that may not be.
func wrongBits() []int {
	return []int{-1, -2, -64, -maxBits, maxBits + 1, maxBits + 64, 2 * maxBits, 1 << 32, -1 << 32, math.MaxInt, math.MinInt, math.MinInt + 1}
}

// short tells a number of few limbs whole, and the ends of others.
func short(x api.Int) string {
	if n := len(x.Mag); n > 8 {
		return fmt.Sprintf("{%v %d limbs: %v .. %v}", x.Neg, n, x.Mag[:3], x.Mag[n-3:])
	}
	return fmt.Sprint(x)
}

func holdOf(t *testing.T, d api.Int, bits int, want api.Int, err api.Errno) {
	t.Helper()
	if q, e := recip.Of(d, bits); e != err || !same(q, want) {
		t.Errorf("Of(%s, %d): %s, %v; wanted are %s, %v", short(d), bits, short(q), e, short(want), err)
	}
}

func holdStep(t *testing.T, d, r api.Int, bits int, want api.Int, err api.Errno) {
	t.Helper()
	if s, e := recip.Step(d, r, bits); e != err || !same(s, want) {
		t.Errorf("Step(%s, %s, %d): %s, %v; wanted are %s, %v", short(d), short(r), bits, short(s), e, short(want), err)
	}
}

// againstOf holds Of against the library.
func againstOf(t *testing.T, d api.Int, bits int) {
	t.Helper()
	want, err := quotientOf(d, bits)
	holdOf(t, d, bits, want, err)
}

// againstStep holds Step against the library.
func againstStep(t *testing.T, d, r api.Int, bits int) {
	t.Helper()
	want, err := stepOf(d, r, bits)
	holdStep(t, d, r, bits, want, err)
}

// P16.1, P16.2: what the chapter and DOC.md write out.
func TestExamples(t *testing.T) {
	holdOf(t, plus(3), 4, plus(5), api.OK)
	holdOf(t, plus(1), 0, plus(1), api.OK)
	holdOf(t, plus(7), 0, api.Int{}, api.OK)
	holdOf(t, power(100), 164, power(64), api.OK)
	holdOf(t, plus(1), 262143, power(262143), api.OK)
	holdOf(t, plus(1), 262144, api.Int{}, api.ErrLong)
	holdOf(t, plus(2), 262144, power(262143), api.OK)
	holdOf(t, api.Int{}, 4, api.Int{}, api.ErrZero)
	holdStep(t, api.Int{}, plus(1), 4, api.Int{}, api.ErrZero)
	holdOf(t, less(3), 4, api.Int{}, api.ErrArg)
	holdOf(t, plus(3), -1, api.Int{}, api.ErrArg)
	holdOf(t, plus(3), 262145, api.Int{}, api.ErrArg)
	holdOf(t, plus(1, 0), 4, api.Int{}, api.ErrArg)
	holdOf(t, api.Int{}, -1, api.Int{}, api.ErrArg)
	holdStep(t, plus(3), plus(4), 4, plus(5), api.OK)
	holdStep(t, plus(3), plus(5), 4, plus(5), api.OK)
	holdStep(t, plus(3), plus(9), 4, plus(2), api.OK)
	holdStep(t, plus(3), less(1), 4, less(3), api.OK)
	holdStep(t, plus(3), api.Int{}, 4, api.Int{}, api.OK)
}

// P16.1: all small divisors, at all bits that an int64 has.
func TestSmallOf(t *testing.T) {
	for d := int64(1); d <= 400; d++ {
		for bits := range 63 {
			holdOf(t, small(d), bits, small(1<<bits/d), api.OK)
		}
	}
	for bits := range 11 {
		for d := int64(1); d <= 1<<bits+3; d++ {
			q, e := recip.Of(small(d), bits)
			n := valueOf(q).Int64()
			if e != api.OK || d*n > 1<<bits || d*(n+1) <= 1<<bits {
				t.Fatalf("Of(%d, %d): %s, %v", d, bits, short(q), e)
			}
		}
	}
}

// floorOver is the floor of n over 2^bits.
func floorOver(n int64, bits int) int64 {
	q := n / (1 << bits)
	if q<<bits > n {
		q--
	}
	return q
}

// P16.2: all small divisors and numbers, of both signs; floors of numbers below 0.
func TestSmallStep(t *testing.T) {
	for d := int64(1); d <= 20; d++ {
		for r := int64(-60); r <= 60; r++ {
			for bits := range 10 {
				holdStep(t, small(d), small(r), bits, small(r+floorOver(r*(1<<bits-d*r), bits)), api.OK)
			}
		}
	}
}

// P16.1: all bits up to some limbs, so with bits that leave limbs whole and that do not, beside all kinds of divisors.
func TestAllBits(t *testing.T) {
	t.Parallel()
	for _, d := range divisors() {
		for bits := range 700 {
			againstOf(t, d, bits)
		}
	}
}

// P16.1: powers of two, the numbers next to them and half way up to the next, at bits about their own and far from them.
func TestPowersOfTwo(t *testing.T) {
	t.Parallel()
	for _, n := range []int{1, 2, 31, 32, 61, 62, 63, 64, 65, 126, 127, 128, 129, 191, 192, 193, 511, 512, 640} {
		d := power(n)
		half, _ := rightOf(new(big.Int).Add(twoTo(n), twoTo(n-1)))
		for _, x := range []api.Int{more(d, -1), d, more(d, 1), more(half, -1), half, more(half, 1)} {
			for _, bits := range []int{0, 1, n - 2, n - 1, n, n + 1, n + 2, n + 3, n + 31, n + 60, n + 64, n + 65, 2 * n, 2*n + 1, 3 * n, 1000} {
				if bits >= 0 {
					againstOf(t, x, bits)
				}
			}
		}
	}
	for _, n := range []int{0, 1, 63, 64, 1000, 131071, 131072, 200000, 262142, 262143} {
		holdOf(t, power(n), 262143, power(262143-n), api.OK)
		if n > 0 {
			holdOf(t, power(n), 262144, power(262144-n), api.OK)
		}
	}
}

// P16.1: divisors above 2^bits, from just so to 4096 limbs: 0; and 2^bits itself: 1.
func TestAbove(t *testing.T) {
	for _, bits := range []int{0, 1, 5, 61, 62, 63, 64, 65, 127, 128, 129, 1000, 4096, 262000, 262142, 262143} {
		holdOf(t, power(bits), bits, plus(1), api.OK)
		holdOf(t, more(power(bits), 1), bits, api.Int{}, api.OK)
		for _, up := range []int{bits + 1, bits + 2, bits + 64, bits + 1000} {
			if up < maxBits {
				holdOf(t, power(up), bits, api.Int{}, api.OK)
				holdOf(t, more(power(up), 1), bits, api.Int{}, api.OK)
			}
		}
		holdOf(t, full(api.MaxLimbs), bits, api.Int{}, api.OK)
	}
	holdOf(t, full(api.MaxLimbs), maxBits, plus(1), api.OK)
	holdOf(t, more(power(262143), 1), maxBits, plus(1), api.OK)
	holdOf(t, power(262143), maxBits, plus(2), api.OK)
	holdOf(t, more(power(262143), -1), maxBits, plus(2), api.OK)
}

// P16.1: drawn divisors, and reciprocals of all lengths.
func TestLengths(t *testing.T) {
	t.Parallel()
	r := rand.New(rand.NewSource(160))
	for n := 1; n <= 40; n++ {
		for m := range 40 {
			againstOf(t, divisor(r, n), 64*(n+m)-r.Intn(64))
		}
	}
	for range 3000 {
		d := divisor(r, 1+r.Intn(6))
		againstOf(t, d, max(0, 64*len(d.Mag)-64+r.Intn(500)))
	}
}

// P16.1: divisors whose reciprocals are just whole numbers, or just not: a power of two over one number, and the numbers next to that.
func TestJustWhole(t *testing.T) {
	t.Parallel()
	r := rand.New(rand.NewSource(161))
	for range 1500 {
		q := divisor(r, 1+r.Intn(8))
		bits := 64*len(q.Mag) + r.Intn(600)
		d, _ := quotientOf(q, bits)
		for n := int64(-2); n <= 2; n++ {
			if x := more(d, n); !x.Neg && len(x.Mag) > 0 {
				againstOf(t, x, bits)
			}
		}
	}
}

// P16.1: all pairs of a divisor and a reciprocal whose product is 2^bits - 1, 2^bits or 2^bits + 1, as 2^(2 n) - 1 is of 2^n - 1 and 2^n + 1.
func TestProductsNextToPowers(t *testing.T) {
	t.Parallel()
	for n := 1; n <= 400; n++ {
		down, up := more(power(n), -1), more(power(n), 1)
		holdOf(t, up, 2*n, down, api.OK)
		if n > 1 {
			// 2^(2 n) is (2^n - 1) (2^n + 1) + 1.
			holdOf(t, down, 2*n, up, api.OK)
		}
		// (2^n + 1) (2^(2 n) - 2^n + 1) is 2^(3 n) + 1: so the reciprocal is one less.
		want, _ := rightOf(new(big.Int).Sub(twoTo(2*n), twoTo(n)))
		holdOf(t, up, 3*n, want, api.OK)
		againstOf(t, down, 3*n)
	}
}

// P16.1: many limbs, up to 4096, of divisors and of reciprocals.
func TestLongs(t *testing.T) {
	t.Parallel()
	r := rand.New(rand.NewSource(162))
	for _, n := range []int{1, 2, 100, 1365, 2047, 2048, 2049, 3000, 4000, 4094, 4095, 4096} {
		d := divisor(r, n)
		for _, bits := range []int{maxBits, maxBits - 1, maxBits - 64, maxBits - 1 - r.Intn(20000)} {
			againstOf(t, d, bits)
		}
	}
	for _, d := range []api.Int{plus(2), plus(3), plus(ones), plus(0, 1), full(2048), power(64 * 2048), more(power(64*2048), 1), full(4095), power(64 * 4095), full(api.MaxLimbs), more(full(api.MaxLimbs), -1), more(power(maxBits-1), 1), more(power(maxBits-1), -1)} {
		for _, bits := range []int{maxBits, maxBits - 1, 200000} {
			againstOf(t, d, bits)
		}
	}
}

// P16.1: 2^262144 over 1 alone is too long.
func TestTooLong(t *testing.T) {
	holdOf(t, plus(1), maxBits, api.Int{}, api.ErrLong)
	holdOf(t, plus(1), maxBits-1, power(maxBits-1), api.OK)
	holdOf(t, plus(2), maxBits, power(maxBits-1), api.OK)
	againstOf(t, plus(3), maxBits)
	holdOf(t, plus(1), maxBits-2, power(maxBits-2), api.OK)
}

// froms are numbers to step from: nought, near the reciprocal, on either side, far from it, below 0.
func froms(d api.Int, bits int) []api.Int {
	q, e := quotientOf(d, bits)
	if e != api.OK {
		q = full(api.MaxLimbs)
	}
	l := []api.Int{{}, {Mag: []uint64{}}, plus(1), plus(2), q, more(q, -1), full(1), full(5), power(300)}
	if e == api.OK {
		l = append(l, more(q, 1), more(q, 2))
	}
	for _, times := range []int64{2, 3, 1 << 40} {
		if x, e := rightOf(new(big.Int).Mul(valueOf(q), big.NewInt(times))); e == api.OK {
			l = append(l, x, more(x, -1))
		}
	}
	if x, e := rightOf(new(big.Int).Rsh(valueOf(q), 1)); e == api.OK {
		l = append(l, x)
	}
	for _, x := range l {
		l = append(l, about(x))
	}
	return l
}

// P16.2: steps of all kinds of divisors, from all kinds of numbers.
func TestStepKinds(t *testing.T) {
	t.Parallel()
	for _, d := range divisors() {
		for _, bits := range []int{0, 1, 2, 3, 31, 32, 62, 63, 64, 65, 100, 127, 128, 129, 191, 192, 193, 448, 500, 501, 1000} {
			for _, r := range froms(d, bits) {
				againstStep(t, d, r, bits)
			}
		}
	}
}

// P16.2: drawn divisors and numbers of all lengths.
func TestStepLengths(t *testing.T) {
	t.Parallel()
	r := rand.New(rand.NewSource(163))
	for n := 1; n <= 25; n++ {
		for m := range 25 {
			for range 3 {
				againstStep(t, divisor(r, n), drawn(r, m), r.Intn(64*(n+2*m)+130))
			}
		}
	}
	for range 4000 {
		againstStep(t, divisor(r, 1+r.Intn(3)), drawn(r, r.Intn(4)), r.Intn(500))
	}
}

// P16.2: from nought no step leads away, whatever the divisor and the bits.
func TestStepFromNought(t *testing.T) {
	for _, d := range append(divisors(), full(api.MaxLimbs), power(maxBits-1)) {
		for _, bits := range []int{0, 1, 64, 5000, maxBits - 1, maxBits} {
			for _, nought := range []api.Int{{}, {Mag: []uint64{}}, {Mag: make([]uint64, 0, 5)}} {
				holdStep(t, d, nought, bits, api.Int{}, api.OK)
			}
		}
	}
}

// P16.2: floors below 0: a hair below a whole number is the next one down, a whole number is itself.
func TestStepFloors(t *testing.T) {
	for _, bits := range []int{1, 2, 63, 64, 65, 127, 128, 129, 1000, 131072, maxBits - 1, maxBits} {
		// -1 - (2^bits + d) / 2^bits, and d is not above 2^bits: rounded down, that is -3.
		holdStep(t, plus(1), less(1), bits, less(3), api.OK)
		if bits < maxBits {
			holdStep(t, power(bits), less(1), bits, less(3), api.OK)
			holdStep(t, more(power(bits), 1), less(1), bits, less(4), api.OK)
			// 1 + (2^bits - d) / 2^bits.
			holdStep(t, power(bits), plus(1), bits, plus(1), api.OK)
			holdStep(t, more(power(bits), 1), plus(1), bits, api.Int{}, api.OK)
			holdStep(t, more(power(bits), -1), plus(1), bits, plus(1), api.OK)
		}
		if bits < maxBits-1 {
			holdStep(t, power(bits+1), plus(1), bits, api.Int{}, api.OK)
			holdStep(t, more(power(bits+1), 1), plus(1), bits, less(1), api.OK)
			holdStep(t, more(power(bits+1), -1), plus(1), bits, api.Int{}, api.OK)
		}
	}
}

// P16.2: many limbs, of the divisor, of what is stepped from, of the answer; some answers are too long, and some not.
func TestStepLongs(t *testing.T) {
	t.Parallel()
	r := rand.New(rand.NewSource(164))
	for _, p := range [][3]int{
		{1, 4096, maxBits}, {1, 4095, maxBits}, {1, 4096, maxBits - 64}, {2, 4095, maxBits}, {1000, 3000, maxBits}, {1000, 3600, maxBits},
		{2047, 2048, maxBits}, {2048, 2048, maxBits}, {2049, 2048, maxBits}, {2049, 2049, 131072}, {4096, 1, 0}, {4096, 1, 64}, {4096, 2048, maxBits}, {4096, 2049, maxBits},
		{4096, 4096, maxBits}, {4096, 4096, 0}, {1, 2048, 0}, {1, 2049, 0}, {3000, 548, 1}, {4000, 2000, 262000}, {100, 4050, 260000},
	} {
		for range 2 {
			againstStep(t, divisor(r, p[0]), drawn(r, p[1]), p[2])
		}
	}
	for _, d := range []api.Int{plus(2), plus(ones), full(100), full(2048), divisor(r, 3000), full(api.MaxLimbs)} {
		for _, x := range froms(d, maxBits) {
			againstStep(t, d, x, maxBits)
		}
	}
}

// P16.2: answers that are not too long, though what is on the way to them is: d r, the square of r, 2^bits, and r times what is missing over 2^bits by itself.
func TestStepOnlyTheAnswer(t *testing.T) {
	t.Parallel()
	// From 2^262143 by -2 of it: the second is 2^262144.
	holdStep(t, plus(3), power(262143), 262143, about(power(262143)), api.OK)
	// d r is above 2^262144: r is half as much again as the reciprocal.
	holdStep(t, plus(3), power(262143), maxBits, power(262142), api.OK)
	holdStep(t, plus(1), full(api.MaxLimbs), maxBits, full(api.MaxLimbs), api.OK)
	holdStep(t, plus(2), power(262143), maxBits, power(262143), api.OK)
	holdStep(t, power(262143), plus(2), maxBits, plus(2), api.OK)
	holdStep(t, power(262143), plus(4), maxBits, api.Int{}, api.OK)
}

// P16.2: the longest answers, and the first that are too long.
func TestStepJustTooLong(t *testing.T) {
	t.Parallel()
	top := full(api.MaxLimbs)
	// From -1, at no bits: -2 - d.
	holdStep(t, more(top, -2), less(1), 0, about(top), api.OK)
	holdStep(t, more(top, -1), less(1), 0, api.Int{}, api.ErrLong)
	holdStep(t, top, less(1), 0, api.Int{}, api.ErrLong)
	// From 1: 2 - d.
	holdStep(t, top, plus(1), 0, about(more(top, -2)), api.OK)
	// From -2: -4 - 4 d.
	holdStep(t, more(power(262142), -2), less(2), 0, about(more(top, -3)), api.OK)
	holdStep(t, more(power(262142), -1), less(2), 0, api.Int{}, api.ErrLong)
	// From r, by 1: 1 less the square of r - 1.
	holdStep(t, plus(1), more(power(131072), 1), 0, about(top), api.OK)
	holdStep(t, plus(1), more(power(131072), 2), 0, api.Int{}, api.ErrLong)
	holdStep(t, plus(1), more(about(power(131072)), 1), 0, about(top), api.OK)
	holdStep(t, plus(1), about(power(131072)), 0, api.Int{}, api.ErrLong)
}

// farthest is the size of the number farthest from 0, on its side, from which a step leads to an answer that is not too long: about where d r r less 2 r 2^bits is 2^bits times 2^262144.
func farthest(d api.Int, neg bool, bits int) *big.Int {
	n := valueOf(d)
	size := new(big.Int).Lsh(n, uint(bits+maxBits))
	size.Sqrt(size.Add(size, twoTo(2*bits)))
	if neg {
		size.Sub(size, twoTo(bits))
	} else {
		size.Add(size, twoTo(bits))
	}
	size.Quo(size, n)
	for size.Add(size, big.NewInt(3)); ; size.Sub(size, big.NewInt(1)) {
		if x, e := rightOf(size); e == api.OK {
			if _, e := stepOf(d, of(neg && len(x.Mag) > 0, x.Mag...), bits); e == api.OK {
				return size
			}
		}
		if size.BitLen() > maxBits {
			return size.Sub(twoTo(maxBits), big.NewInt(1))
		}
	}
}

// P16.2: the numbers farthest from 0 from which a step leads to an answer that is not too long, and those next to them.
func TestStepFarthest(t *testing.T) {
	t.Parallel()
	r := rand.New(rand.NewSource(165))
	for _, p := range [][2]int{{1, 0}, {1, 100000}, {1, maxBits - 1}, {2, maxBits}, {50, 131072}, {2048, maxBits}, {2000, 3}, {4096, maxBits}, {4096, 200000}} {
		d := divisor(r, p[0])
		for _, neg := range []bool{false, true} {
			size := farthest(d, neg, p[1])
			last, _ := rightOf(size)
			againstStep(t, d, of(neg && len(last.Mag) > 0, last.Mag...), p[1])
			if next, e := rightOf(size.Add(size, big.NewInt(1))); e == api.OK {
				holdStep(t, d, of(neg, next.Mag...), p[1], api.Int{}, api.ErrLong)
			}
		}
	}
}

// P16.1, P16.2: ErrArg for what is not right, or bits that may not be, ahead of all else.
func TestRefused(t *testing.T) {
	others := []api.Int{{}, plus(1), less(1), plus(3), full(3), full(api.MaxLimbs), about(full(api.MaxLimbs))}
	for _, x := range wrongs() {
		for _, bits := range append(wrongBits(), 0, 1, 64, maxBits) {
			holdOf(t, x, bits, api.Int{}, api.ErrArg)
			for _, y := range append(wrongs(), others...) {
				holdStep(t, x, y, bits, api.Int{}, api.ErrArg)
				holdStep(t, y, x, bits, api.Int{}, api.ErrArg)
			}
		}
	}
	for _, bits := range wrongBits() {
		for _, x := range others {
			holdOf(t, x, bits, api.Int{}, api.ErrArg)
			for _, y := range others {
				holdStep(t, x, y, bits, api.Int{}, api.ErrArg)
			}
		}
	}
}

// P16.1, P16.2: ErrZero for 0, ErrArg for what is below 0, ahead of what is too long.
func TestRefusedDivisors(t *testing.T) {
	numbers := []api.Int{{}, plus(1), less(1), full(3), full(api.MaxLimbs), about(full(api.MaxLimbs))}
	for _, bits := range []int{0, 1, 4, 64, 1000, maxBits - 1, maxBits} {
		for _, nought := range []api.Int{{}, {Mag: []uint64{}}, {Mag: make([]uint64, 0, 5)}} {
			holdOf(t, nought, bits, api.Int{}, api.ErrZero)
			for _, r := range numbers {
				holdStep(t, nought, r, bits, api.Int{}, api.ErrZero)
			}
		}
		for _, d := range []api.Int{less(1), less(2), less(3), less(ones), less(0, 1), about(full(api.MaxLimbs)), about(power(maxBits - 1))} {
			holdOf(t, d, bits, api.Int{}, api.ErrArg)
			for _, r := range numbers {
				holdStep(t, d, r, bits, api.Int{}, api.ErrArg)
			}
		}
	}
}

// spoil overwrites all that a list has, its spare room too.
func spoil(l []uint64) {
	l = l[:cap(l)]
	for i := range l {
		l[i] = 7
	}
}

// R3: numbers are only read, their spare room too; answers are the caller's own.
func TestMemory(t *testing.T) {
	r := rand.New(rand.NewSource(166))
	for i := range 300 {
		d, from, bits := divisor(r, 1+r.Intn(5)), drawn(r, r.Intn(6)), r.Intn(500)
		switch i % 10 {
		case 0:
			d = plus(1)
		case 1:
			from, _ = quotientOf(d, bits)
		case 2:
			d, from, bits = divisor(r, 2050), drawn(r, 30), 64*2100
		}
		dRoom, fromRoom := append(slices.Clone(d.Mag), 11, 12, 13), append(slices.Clone(from.Mag), 21, 22, 23)
		d.Mag, from.Mag = dRoom[:len(d.Mag)], fromRoom[:len(from.Mag)]
		dKeep, fromKeep := slices.Clone(dRoom), slices.Clone(fromRoom)
		for name, call := range map[string]func() (api.Int, api.Errno){
			"Of":   func() (api.Int, api.Errno) { return recip.Of(d, bits) },
			"Step": func() (api.Int, api.Errno) { return recip.Step(d, from, bits) },
		} {
			first, _ := call()
			second, _ := call()
			keep := of(first.Neg, slices.Clone(first.Mag)...)
			spoil(second.Mag)
			if !same(first, keep) {
				t.Errorf("%s of %s, %s: two answers share memory", name, short(d), short(from))
			}
			spoil(first.Mag)
			if !slices.Equal(dRoom, dKeep) || !slices.Equal(fromRoom, fromKeep) {
				t.Fatalf("%s of %s, %s: what was handed in has changed", name, short(d), short(from))
			}
			if again, e := call(); e != api.OK || !same(again, keep) {
				t.Errorf("%s of %s, %s: %s, then %s", name, short(d), short(from), short(keep), short(again))
			}
		}
	}
}

// R3: both numbers may lie in one list, over each other.
func TestOneListTwice(t *testing.T) {
	l := drawn(rand.New(rand.NewSource(167)), 130).Mag
	l[49], l[99] = 1, 9
	keep := slices.Clone(l)
	for _, p := range [][2]api.Int{{plus(l...), plus(l...)}, {plus(l...), less(l[2:]...)}, {plus(l[:50]...), plus(l[3:100]...)}, {plus(l[:50]...), less(l[:100]...)}} {
		for _, bits := range []int{0, 6400, 10000} {
			againstStep(t, p[0], p[1], bits)
		}
	}
	if !slices.Equal(l, keep) {
		t.Error("the list has changed")
	}
}

// R4: calls side by side, of the same numbers, tell what they tell one by one.
func TestSideBySide(t *testing.T) {
	d, r, bits := full(131), about(full(300)), 64*400
	q, _ := recip.Of(d, bits)
	s, _ := recip.Step(d, r, bits)
	var group sync.WaitGroup
	for range 8 {
		group.Go(func() { holdOf(t, d, bits, q, api.OK) })
		group.Go(func() { holdStep(t, d, r, bits, s, api.OK) })
	}
	group.Wait()
}
