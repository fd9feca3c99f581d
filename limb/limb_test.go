package limb_test

import (
	"encoding/binary"
	"math"
	"math/big"
	"math/rand"
	"slices"
	"sync"
	"testing"

	"rosette/api"
	"rosette/limb"
)

const (
	most    = 1<<64 - 1
	maxBits = 64 * api.MaxLimbs
)

func of(neg bool, l ...uint64) api.Int { return api.Int{Neg: neg, Mag: l} }

func plus(l ...uint64) api.Int { return of(false, l...) }

func less(l ...uint64) api.Int { return of(true, l...) }

func about(x api.Int) api.Int { return api.Int{Neg: !x.Neg, Mag: x.Mag} }

func same(a, b api.Int) bool { return a.Neg == b.Neg && slices.Equal(a.Mag, b.Mag) }

// full has so many limbs, all ones: 2^(64 limbs) - 1.
func full(limbs int) api.Int { return plus(slices.Repeat([]uint64{most}, limbs)...) }

// power is 2^n.
func power(n int) api.Int {
	m := make([]uint64, n/64+1)
	m[n/64] = 1 << (n % 64)
	return plus(m...)
}

// valueOf is what x is, as a whole number of the library.
func valueOf(x api.Int) *big.Int {
	b := make([]byte, 0, 8*len(x.Mag))
	for _, l := range slices.Backward(x.Mag) {
		b = binary.BigEndian.AppendUint64(b, l)
	}
	n := new(big.Int).SetBytes(b)
	if x.Neg {
		n.Neg(n)
	}
	return n
}

// rightOf is the right whole number of n, or ErrLong.
func rightOf(n *big.Int) (api.Int, api.Errno) {
	if n.BitLen() > maxBits {
		return api.Int{}, api.ErrLong
	}
	x := api.Int{Neg: n.Sign() < 0}
	b := new(big.Int).Abs(n).FillBytes(make([]byte, (n.BitLen()+63)/64*8))
	for i := len(b); i > 0; i -= 8 {
		x.Mag = append(x.Mag, binary.BigEndian.Uint64(b[i-8:]))
	}
	return x, api.OK
}

func sumOf(a, b api.Int) (api.Int, api.Errno) {
	return rightOf(new(big.Int).Add(valueOf(a), valueOf(b)))
}

func lessOf(a, b api.Int) (api.Int, api.Errno) {
	return rightOf(new(big.Int).Sub(valueOf(a), valueOf(b)))
}

// shiftOf is x times 2^by, rounded down, by a quotient: by at most maxBits either way.
func shiftOf(x api.Int, by int) (api.Int, api.Errno) {
	n := valueOf(x)
	if by >= 0 {
		return rightOf(n.Mul(n, valueOf(power(by))))
	}
	// Div rounds down where what divides is above 0.
	return rightOf(n.Div(n, valueOf(power(-by))))
}

// rights are right whole numbers of all kinds: 0, small ones, those at the ends of int64 and of limbs, of both signs.
func rights() []api.Int {
	l := []api.Int{
		plus(1), plus(2), plus(3), plus(5), plus(1<<32 - 1), plus(1<<63 - 1), plus(1 << 63), plus(1<<63 + 1), plus(most - 1), plus(most),
		plus(0, 1), plus(1, 1), plus(most, 1), plus(0, most), plus(0, 1<<63), plus(most, 1<<63-1), plus(1, 0, 1), plus(0, 0, 1), plus(most-1, most, most), plus(0, most, most), plus(1<<63, 0, 1<<63),
		full(2), full(3), full(17), power(63), power(127), power(128), power(1000), power(64 * 17),
		full(api.MaxLimbs), full(api.MaxLimbs - 1), full(api.MaxLimbs / 2), power(maxBits - 1), power(maxBits - 2), power(maxBits - 64), power(maxBits - 65),
	}
	for _, x := range l {
		l = append(l, about(x))
	}
	return append(l, api.Int{}, api.Int{Mag: []uint64{}})
}

// wrongs are whole numbers that are not right, each by one fault alone.
func wrongs() []api.Int {
	long := full(api.MaxLimbs + 1)
	return []api.Int{
		{Neg: true}, less([]uint64{}...), {Neg: true, Mag: make([]uint64, 0, 3)}, // no limbs and Neg
		plus(0), less(0), plus(1, 0), less(1, 0), plus(0, 0), plus(most, most, 0), plus(append(full(api.MaxLimbs-1).Mag, 0)...), // a 0 on top
		long, about(long), power(maxBits), about(power(maxBits)), full(5000), // limbs
	}
}

// drawn is a right whole number of up to so many limbs, with runs of noughts and of ones.
func drawn(r *rand.Rand, limbs int) api.Int {
	m := make([]uint64, r.Intn(limbs+1))
	for i := range m {
		m[i] = []uint64{0, most, most, 1, 1 << 63, r.Uint64(), r.Uint64() >> r.Intn(64)}[r.Intn(7)]
	}
	if n := len(m); n > 0 {
		m[n-1] |= 1 << r.Intn(64)
	}
	return of(len(m) > 0 && r.Intn(2) == 0, m...)
}

// short tells a number of few limbs whole, and the ends of others.
func short(x api.Int) api.Int {
	if n := len(x.Mag); n > 8 {
		x.Mag = []uint64{x.Mag[0], x.Mag[1], uint64(n), x.Mag[n-2], x.Mag[n-1]}
	}
	return x
}

// hold holds a number, or an error, against what is wanted.
func hold(t *testing.T, what string, a, b any, x api.Int, e api.Errno, want api.Int, err api.Errno) {
	t.Helper()
	if e != err || !same(x, want) {
		t.Errorf("%s of %v, %v: %v, %v; wanted are %v, %v", what, a, b, short(x), e, short(want), err)
	}
}

func holdAdd(t *testing.T, a, b, want api.Int, err api.Errno) {
	t.Helper()
	x, e := limb.Add(a, b)
	hold(t, "Add", short(a), short(b), x, e, want, err)
	x, e = limb.Add(b, a)
	hold(t, "Add", short(b), short(a), x, e, want, err)
}

func holdSub(t *testing.T, a, b, want api.Int, err api.Errno) {
	t.Helper()
	x, e := limb.Sub(a, b)
	hold(t, "Sub", short(a), short(b), x, e, want, err)
}

func holdShift(t *testing.T, x api.Int, by int, want api.Int, err api.Errno) {
	t.Helper()
	y, e := limb.Shift(x, by)
	hold(t, "Shift", short(x), by, y, e, want, err)
}

func holdNeg(t *testing.T, x, want api.Int, err api.Errno) {
	t.Helper()
	y, e := limb.Neg(x)
	hold(t, "Neg", short(x), nil, y, e, want, err)
}

func holdCmp(t *testing.T, a, b api.Int, want int, err api.Errno) {
	t.Helper()
	if n, e := limb.Cmp(a, b); n != want || e != err {
		t.Errorf("Cmp of %v, %v: %d, %v; wanted are %d, %v", short(a), short(b), n, e, want, err)
	}
}

func holdBits(t *testing.T, x api.Int, want int, err api.Errno) {
	t.Helper()
	if n, e := limb.Bits(x); n != want || e != err {
		t.Errorf("Bits of %v: %d, %v; wanted are %d, %v", short(x), n, e, want, err)
	}
}

func holdSmall(t *testing.T, x api.Int, want int64, is bool) {
	t.Helper()
	if n, ok := limb.Small(x); n != want || ok != is {
		t.Errorf("Small of %v: %d, %v; wanted are %d, %v", short(x), n, ok, want, is)
	}
}

// The chapter's examples.
func TestExamples(t *testing.T) {
	if !same(limb.Of(-1), less(1)) || !same(limb.Of(0), api.Int{}) || !same(limb.Of(math.MinInt64), less(1<<63)) {
		t.Error("Of")
	}
	holdSmall(t, less(1<<63), math.MinInt64, true)
	holdSmall(t, plus(1<<63), 0, false)
	holdSmall(t, api.Int{Neg: true}, 0, false)
	if limb.Right(plus(1, 0)) {
		t.Error("Right of a 0 on top")
	}
	holdAdd(t, plus(most), plus(1), plus(0, 1), api.OK)
	holdSub(t, plus(0, 1), plus(1), plus(most), api.OK)
	holdSub(t, plus(3), plus(5), less(2), api.OK)
	holdSub(t, full(9), full(9), api.Int{}, api.OK)
	holdAdd(t, full(api.MaxLimbs), plus(1), api.Int{}, api.ErrLong)
	holdSub(t, about(full(api.MaxLimbs)), plus(1), api.Int{}, api.ErrLong)
	holdShift(t, plus(5), 64, plus(0, 5), api.OK)
	holdShift(t, less(5), -1, less(3), api.OK)
	holdShift(t, less(1), -1000, less(1), api.OK)
	holdShift(t, plus(5), -1000, api.Int{}, api.OK)
	holdShift(t, plus(1), 262143, power(262143), api.OK)
	holdShift(t, plus(1), 262144, api.Int{}, api.ErrLong)
	holdShift(t, plus(1), math.MaxInt, api.Int{}, api.ErrLong)
	holdShift(t, api.Int{}, math.MaxInt, api.Int{}, api.OK)
	holdShift(t, less(7), math.MinInt, less(1), api.OK)
	holdBits(t, less(8), 4, api.OK)
	holdBits(t, api.Int{}, 0, api.OK)
}

// P13.1: what is right, and what is not.
func TestRight(t *testing.T) {
	for _, x := range rights() {
		if !limb.Right(x) {
			t.Errorf("%v is right", short(x))
		}
	}
	for _, x := range wrongs() {
		if limb.Right(x) {
			t.Errorf("%v is not right", short(x))
		}
	}
	// What lies in the spare room does not count.
	m := []uint64{0, 5, 0, 7}
	if !limb.Right(plus(m[:2]...)) || limb.Right(plus(m[:3]...)) || !limb.Right(plus(m[:0]...)) || !limb.Right(less(m[3:]...)) {
		t.Error("parts of a list")
	}
}

// P13.1: the int64s there and back.
func TestOfAndSmall(t *testing.T) {
	r := rand.New(rand.NewSource(131))
	l := []int64{0, 1, -1, 2, -2, 1 << 32, -1 << 32, 1 << 62, -1 << 62, math.MaxInt64, math.MaxInt64 - 1, -math.MaxInt64, math.MinInt64, math.MinInt64 + 2}
	for range 1000 {
		l = append(l, int64(r.Uint64())>>r.Intn(64))
	}
	for _, n := range l {
		x := limb.Of(n)
		want, _ := rightOf(big.NewInt(n))
		if !limb.Right(x) || !same(x, want) {
			t.Errorf("Of(%d): %v", n, x)
		}
		holdSmall(t, x, n, true)
	}
}

// P13.1: what is no int64, or not right, is 0 and false.
func TestSmallRefused(t *testing.T) {
	for _, x := range rights() {
		n := valueOf(x)
		if n.IsInt64() {
			holdSmall(t, x, n.Int64(), true)
		} else {
			holdSmall(t, x, 0, false)
		}
	}
	for _, x := range []api.Int{plus(1 << 63), less(1<<63 + 1), plus(most), less(most), plus(0, 1), less(0, 1), plus(7, 1), less(1<<63, 1)} {
		holdSmall(t, x, 0, false)
	}
	for _, x := range wrongs() {
		holdSmall(t, x, 0, false)
	}
}

// P13.2: all pairs of numbers of both signs and of all lengths.
func TestCmp(t *testing.T) {
	l := rights()
	for _, a := range l {
		for _, b := range l {
			holdCmp(t, a, b, valueOf(a).Cmp(valueOf(b)), api.OK)
		}
	}
	// One limb settles it, wherever it stands.
	for place := range 5 {
		a, b := full(5), full(5)
		b.Mag[place]--
		holdCmp(t, a, b, 1, api.OK)
		holdCmp(t, b, a, -1, api.OK)
		holdCmp(t, about(a), about(b), -1, api.OK)
		holdCmp(t, about(b), about(a), 1, api.OK)
		holdCmp(t, about(a), b, -1, api.OK)
	}
	// The highest does, whatever those below it say.
	holdCmp(t, plus(most, most, 1), plus(0, 0, 2), -1, api.OK)
	holdCmp(t, less(most, most, 1), less(0, 0, 2), 1, api.OK)
	holdCmp(t, plus(most, most), plus(0, 0, 1), -1, api.OK)
	holdCmp(t, less(most, most), less(0, 0, 1), 1, api.OK)
	holdCmp(t, plus(1), less(0, 0, 1), 1, api.OK)
	holdCmp(t, api.Int{}, less(1), 1, api.OK)
	holdCmp(t, api.Int{}, plus(1), -1, api.OK)
}

// P13.2: 0 less x; 0 is its own.
func TestNeg(t *testing.T) {
	for _, x := range rights() {
		if len(x.Mag) == 0 {
			holdNeg(t, x, api.Int{}, api.OK)
			continue
		}
		holdNeg(t, x, about(x), api.OK)
	}
}

// P13.3: all pairs of all kinds, against the library.
func TestSums(t *testing.T) {
	told := [2]int{}
	l := rights()
	for _, a := range l {
		for _, b := range l {
			want, err := sumOf(a, b)
			holdAdd(t, a, b, want, err)
			want, err = lessOf(a, b)
			holdSub(t, a, b, want, err)
			if err == api.OK {
				told[0]++
			} else {
				told[1]++
			}
		}
	}
	if told[0] < 4000 || told[1] < 20 {
		t.Errorf("told and refused: %v", told)
	}
}

// P13.3: drawn numbers, of all four pairs of signs, either longer than the other.
func TestSumsDrawn(t *testing.T) {
	r := rand.New(rand.NewSource(132))
	for i := range 20000 {
		a, b := drawn(r, 6), drawn(r, 1+i%6)
		if i%5 == 0 && len(a.Mag) > 0 {
			// Alike on top, so that limbs are lost.
			b = of(r.Intn(2) == 0, slices.Clone(a.Mag)...)
			b.Mag[0] ^= uint64(r.Intn(3)) + 1
			if !limb.Right(b) {
				continue
			}
		}
		want, err := sumOf(a, b)
		holdAdd(t, a, b, want, err)
		want, err = lessOf(a, b)
		holdSub(t, a, b, want, err)
		if t.Failed() {
			return
		}
	}
}

// P13.3: carries and borrows through all limbs, and limbs that are lost on top.
func TestCarries(t *testing.T) {
	for _, n := range []int{1, 2, 3, 10, 100, api.MaxLimbs - 1} {
		holdAdd(t, full(n), plus(1), power(64*n), api.OK)
		holdAdd(t, about(full(n)), less(1), about(power(64*n)), api.OK)
		holdAdd(t, power(64*n), less(1), full(n), api.OK)
		holdAdd(t, about(power(64*n)), plus(1), about(full(n)), api.OK)
		holdSub(t, power(64*n), plus(1), full(n), api.OK)
		holdSub(t, plus(1), power(64*n), about(full(n)), api.OK)
		holdSub(t, power(64*n), full(n), plus(1), api.OK)
		holdSub(t, full(n), power(64*n), less(1), api.OK)
		holdSub(t, full(n), less(1), power(64*n), api.OK)
		holdSub(t, about(full(n)), plus(1), about(power(64*n)), api.OK)
		double := full(n + 1)
		double.Mag[0], double.Mag[n] = most-1, 1
		holdAdd(t, full(n), full(n), double, api.OK)
		holdSub(t, about(full(n)), full(n), about(double), api.OK)
	}
	for _, x := range rights() {
		holdSub(t, x, x, api.Int{}, api.OK)
		holdAdd(t, x, api.Int{}, x, api.OK)
		holdSub(t, x, api.Int{}, x, api.OK)
		holdSub(t, api.Int{}, x, of(!x.Neg && len(x.Mag) > 0, x.Mag...), api.OK)
		if len(x.Mag) > 0 {
			holdAdd(t, x, about(x), api.Int{}, api.OK)
		}
	}
}

// P13.3: 2^262144 and -2^262144 are too long; one nearer to 0 is not.
func TestSumsTooLong(t *testing.T) {
	top, half := full(api.MaxLimbs), power(maxBits-1)
	nearly := full(api.MaxLimbs)
	nearly.Mag[0]--
	holdAdd(t, top, plus(1), api.Int{}, api.ErrLong)
	holdAdd(t, nearly, plus(1), top, api.OK)
	holdAdd(t, nearly, plus(2), api.Int{}, api.ErrLong)
	holdAdd(t, about(top), less(1), api.Int{}, api.ErrLong)
	holdAdd(t, about(nearly), less(1), about(top), api.OK)
	holdSub(t, top, less(1), api.Int{}, api.ErrLong)
	holdSub(t, nearly, less(1), top, api.OK)
	holdSub(t, about(top), plus(1), api.Int{}, api.ErrLong)
	holdSub(t, about(nearly), plus(1), about(top), api.OK)
	holdAdd(t, half, half, api.Int{}, api.ErrLong)
	holdSub(t, about(half), half, api.Int{}, api.ErrLong)
	less1, _ := limb.Sub(half, plus(1))
	holdAdd(t, half, less1, top, api.OK)
	holdSub(t, about(half), less1, about(top), api.OK)
	holdAdd(t, top, top, api.Int{}, api.ErrLong)
	holdSub(t, top, top, api.Int{}, api.OK)
	holdAdd(t, top, less(1), nearly, api.OK)
}

// P13.4: of 0, of every power of two and of one less, of all kinds.
func TestBits(t *testing.T) {
	for _, x := range rights() {
		holdBits(t, x, valueOf(x).BitLen(), api.OK)
	}
	holdBits(t, plus(1), 1, api.OK)
	for n := 1; n < maxBits; n += 1 + n/400*61 {
		holdBits(t, power(n), n+1, api.OK)
		holdBits(t, about(power(n)), n+1, api.OK)
		one, _ := rightOf(new(big.Int).Sub(valueOf(power(n)), big.NewInt(1)))
		holdBits(t, one, n, api.OK)
		holdBits(t, about(one), n, api.OK)
	}
	holdBits(t, full(api.MaxLimbs), maxBits, api.OK)
	holdBits(t, power(maxBits-1), maxBits, api.OK)
}

// P13.5: all kinds, by 0, by whole limbs and by others, up and down, against quotients of the library.
func TestShift(t *testing.T) {
	steps := []int{0, 1, 2, 31, 63, 64, 65, 100, 127, 128, 129, 192, 1000, 64 * 16, 64*17 - 1, 64 * 17, 64*17 + 1, maxBits/2 - 1, maxBits / 2, maxBits - 129, maxBits - 128, maxBits - 65, maxBits - 64, maxBits - 63, maxBits - 2, maxBits - 1, maxBits}
	for _, x := range rights() {
		for _, by := range steps {
			want, err := shiftOf(x, by)
			holdShift(t, x, by, want, err)
			want, err = shiftOf(x, -by)
			holdShift(t, x, -by, want, err)
		}
	}
}

// P13.5: drawn numbers by all steps about their lengths.
func TestShiftDrawn(t *testing.T) {
	r := rand.New(rand.NewSource(133))
	for range 400 {
		x := drawn(r, 4)
		for by := -270; by <= 140; by += 1 + r.Intn(3) {
			want, err := shiftOf(x, by)
			holdShift(t, x, by, want, err)
		}
		if t.Failed() {
			return
		}
	}
}

// P13.5: below 0 what is shifted off is rounded away from 0; noughts are not.
func TestShiftDown(t *testing.T) {
	for n := range int64(200) {
		for by := range 10 {
			holdShift(t, limb.Of(n), -by, limb.Of(n>>by), api.OK)
			holdShift(t, limb.Of(-n), -by, limb.Of(-n>>by), api.OK)
		}
	}
	for _, n := range []int{1, 2, 40} {
		holdShift(t, about(power(64*n)), -64*n, less(1), api.OK)
		holdShift(t, about(power(64*n)), -64*n-1, less(1), api.OK)
		holdShift(t, about(power(64*n)), -64*n+1, less(2), api.OK)
		holdShift(t, about(full(n)), -64*n, less(1), api.OK)
		holdShift(t, full(n), -64*n, api.Int{}, api.OK)
		holdShift(t, full(n), -64*n+1, plus(1), api.OK)
		// Rounding carries through all limbs that are left.
		holdShift(t, about(full(n+1)), -64, about(power(64*n)), api.OK)
		holdShift(t, about(full(n+1)), -1, about(power(64*n+63)), api.OK)
	}
	// Only the lowest bit, far below, makes it more.
	x := power(6400)
	x.Mag[0] = 1
	holdShift(t, about(x), -6400, less(2), api.OK)
	holdShift(t, about(x), -6336, less(1, 1), api.OK)
	holdShift(t, x, -6400, plus(1), api.OK)
	holdShift(t, about(full(api.MaxLimbs)), -1, about(power(maxBits-1)), api.OK)
}

// P13.5: the ends of int, and 0 by any.
func TestShiftFar(t *testing.T) {
	far := []int{maxBits, maxBits + 1, maxBits + 63, 2 * maxBits, 1 << 30, math.MaxInt32, math.MaxInt - maxBits, math.MaxInt - 64, math.MaxInt - 1, math.MaxInt}
	for _, x := range rights() {
		down, err := api.Int{}, api.ErrLong
		if x.Neg {
			down = less(1)
		}
		if len(x.Mag) == 0 {
			err = api.OK
		}
		for _, by := range far {
			holdShift(t, x, by, api.Int{}, err)
			holdShift(t, x, -by, down, api.OK)
		}
		holdShift(t, x, math.MinInt, down, api.OK)
	}
}

// P13.5: 2^262143 is told, 2^262144 is too long, from wherever it comes.
func TestShiftTooLong(t *testing.T) {
	for _, n := range []int{0, 1, 5, 63, 64, 65, 1000, maxBits / 2, maxBits - 64, maxBits - 1} {
		x := power(n)
		holdShift(t, x, maxBits-1-n, power(maxBits-1), api.OK)
		holdShift(t, about(x), maxBits-1-n, about(power(maxBits-1)), api.OK)
		holdShift(t, x, maxBits-n, api.Int{}, api.ErrLong)
		holdShift(t, about(x), maxBits-n, api.Int{}, api.ErrLong)
	}
	top := full(api.MaxLimbs)
	holdShift(t, top, 0, top, api.OK)
	holdShift(t, top, 1, api.Int{}, api.ErrLong)
	holdShift(t, about(top), 1, api.Int{}, api.ErrLong)
	three := power(maxBits - 1)
	three.Mag[api.MaxLimbs-1] |= 1 << 62
	holdShift(t, plus(3), maxBits-2, three, api.OK)
	holdShift(t, plus(3), maxBits-1, api.Int{}, api.ErrLong)
}

// R8, R2: what is not right is ErrArg, wherever it stands, and beside what would be too long, too.
func TestWrong(t *testing.T) {
	zero := api.Int{}
	others := []api.Int{zero, plus(1), less(1), full(3), full(api.MaxLimbs), about(full(api.MaxLimbs))}
	for _, x := range wrongs() {
		for _, y := range append(others, wrongs()...) {
			holdCmp(t, x, y, 0, api.ErrArg)
			holdCmp(t, y, x, 0, api.ErrArg)
			holdAdd(t, x, y, zero, api.ErrArg)
			holdSub(t, x, y, zero, api.ErrArg)
			holdSub(t, y, x, zero, api.ErrArg)
		}
		holdNeg(t, x, zero, api.ErrArg)
		holdBits(t, x, 0, api.ErrArg)
		for _, by := range []int{0, 1, -1, 64, -64, -maxBits, maxBits, math.MaxInt, math.MinInt} {
			holdShift(t, x, by, zero, api.ErrArg)
		}
	}
}

// spoil overwrites all that a list has, its spare room too.
func spoil(l []uint64) {
	l = l[:cap(l)]
	for i := range l {
		l[i] = 7
	}
}

// calls are all calls that tell a number of two.
var calls = []struct {
	name string
	call func(a, b api.Int) (api.Int, api.Errno)
}{
	{"Add", limb.Add},
	{"Sub", limb.Sub},
	{"Sub of itself", func(a, _ api.Int) (api.Int, api.Errno) { return limb.Sub(a, a) }},
	{"Neg", func(a, _ api.Int) (api.Int, api.Errno) { return limb.Neg(a) }},
	{"Shift by 0", func(a, _ api.Int) (api.Int, api.Errno) { return limb.Shift(a, 0) }},
	{"Shift by 64", func(a, _ api.Int) (api.Int, api.Errno) { return limb.Shift(a, 64) }},
	{"Shift by 7", func(a, _ api.Int) (api.Int, api.Errno) { return limb.Shift(a, 7) }},
	{"Shift by -64", func(a, _ api.Int) (api.Int, api.Errno) { return limb.Shift(a, -64) }},
	{"Shift by -3", func(a, _ api.Int) (api.Int, api.Errno) { return limb.Shift(a, -3) }},
	{"Shift by -9999", func(a, _ api.Int) (api.Int, api.Errno) { return limb.Shift(a, -9999) }},
	{"Of", func(_, _ api.Int) (api.Int, api.Errno) { return limb.Of(-5), api.OK }},
}

// R3: numbers are only read, their spare room too; answers are the caller's own.
func TestMemory(t *testing.T) {
	r := rand.New(rand.NewSource(3))
	for range 300 {
		a, b := drawn(r, 5), drawn(r, 5)
		if r.Intn(4) == 0 {
			b = api.Int{}
		}
		aRoom, bRoom := append(a.Mag, 11, 12, 13), append(b.Mag, 21, 22, 23)
		a.Mag, b.Mag = aRoom[:len(a.Mag)], bRoom[:len(b.Mag)]
		aKeep, bKeep := slices.Clone(aRoom), slices.Clone(bRoom)
		for _, c := range calls {
			first, _ := c.call(a, b)
			second, _ := c.call(a, b)
			keep := of(first.Neg, slices.Clone(first.Mag)...)
			spoil(second.Mag)
			if !same(first, keep) {
				t.Errorf("%s of %v, %v: two answers share memory", c.name, a, b)
			}
			spoil(first.Mag)
			if !slices.Equal(aRoom, aKeep) || !slices.Equal(bRoom, bKeep) {
				t.Fatalf("%s of %v, %v: what was handed in has changed", c.name, a, b)
			}
			if again, e := c.call(a, b); e != api.OK || !same(again, keep) {
				t.Errorf("%s of %v, %v: %v, then %v", c.name, a, b, keep, again)
			}
		}
		limb.Right(a)
		limb.Small(a)
		limb.Bits(a)
		limb.Cmp(a, b)
		if !slices.Equal(aRoom, aKeep) || !slices.Equal(bRoom, bKeep) {
			t.Fatalf("%v, %v: what was handed in has changed", a, b)
		}
	}
}

// R3: both numbers may lie in one list, over each other.
func TestOneListTwice(t *testing.T) {
	l := []uint64{most, 1, most, most, 3, 0, 9, most}
	keep := slices.Clone(l)
	for _, p := range [][2]api.Int{{plus(l...), plus(l...)}, {plus(l...), less(l[2:]...)}, {less(l[:5]...), plus(l[3:]...)}, {less(l[:1]...), less(l[:4]...)}} {
		want, err := sumOf(p[0], p[1])
		holdAdd(t, p[0], p[1], want, err)
		want, err = lessOf(p[0], p[1])
		holdSub(t, p[0], p[1], want, err)
		holdCmp(t, p[0], p[1], valueOf(p[0]).Cmp(valueOf(p[1])), api.OK)
	}
	if !slices.Equal(l, keep) {
		t.Error(l)
	}
}

// R4: calls side by side, of the same numbers, tell what they tell one by one.
func TestSideBySide(t *testing.T) {
	a, b := full(700), about(full(300))
	var group sync.WaitGroup
	for _, c := range calls {
		want, _ := c.call(a, b)
		for range 4 {
			group.Go(func() {
				if x, e := c.call(a, b); e != api.OK || !same(x, want) {
					t.Errorf("%s tells another number", c.name)
				}
			})
		}
	}
	group.Wait()
}
