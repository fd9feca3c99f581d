package cut_test

import (
	"encoding/binary"
	"math"
	"math/big"
	"math/rand"
	"slices"
	"sync"
	"testing"

	"rosette/api"
	"rosette/cut"
	"rosette/fault"
)

const (
	ones    = 1<<64 - 1
	maxBits = 64 * api.MaxLimbs
	least   = math.MinInt64
	great   = math.MaxInt64
)

func of(neg bool, l ...uint64) api.Int { return api.Int{Neg: neg, Mag: l} }

func plus(l ...uint64) api.Int { return of(false, l...) }

func less(l ...uint64) api.Int { return of(true, l...) }

// about is 0 less x.
func about(x api.Int) api.Int { return of(!x.Neg && len(x.Mag) > 0, x.Mag...) }

func same(a, b api.Int) bool { return a.Neg == b.Neg && slices.Equal(a.Mag, b.Mag) }

// full has so many limbs, all ones: 2^(64 limbs) - 1.
func full(limbs int) api.Int { return plus(slices.Repeat([]uint64{ones}, limbs)...) }

// power is 2^n.
func power(n int) api.Int {
	m := make([]uint64, n/64+1)
	m[n/64] = 1 << (n % 64)
	return plus(m...)
}

// small is n as a whole number.
func small(n int64) api.Int {
	x, _ := rightOf(big.NewInt(n))
	return x
}

// valueOf is what x is, as a whole number of the library.
func valueOf(x api.Int) *big.Int {
	b := make([]byte, 0, 8*len(x.Mag))
	for _, l := range slices.Backward(x.Mag) {
		b = binary.BigEndian.AppendUint64(b, l)
	}
	n := new(big.Int).SetBytes(b)
	if x.Neg {
		n.Neg(n)
	}
	return n
}

// rightOf is the right whole number of n, or ErrLong.
func rightOf(n *big.Int) (api.Int, api.Errno) {
	if n.BitLen() > maxBits {
		return api.Int{}, api.ErrLong
	}
	x := api.Int{Neg: n.Sign() < 0}
	b := new(big.Int).Abs(n).FillBytes(make([]byte, (n.BitLen()+63)/64*8))
	for i := len(b); i > 0; i -= 8 {
		x.Mag = append(x.Mag, binary.BigEndian.Uint64(b[i-8:]))
	}
	return x, api.OK
}

// sumOf is the sum of a row, by halves, so that long rows are done soon.
func sumOf(l []int64, bits int) *big.Int {
	switch len(l) {
	case 0:
		return new(big.Int)
	case 1:
		return big.NewInt(l[0])
	}
	half := len(l) / 2
	high := sumOf(l[half:], bits)
	high.Lsh(high, uint(half*bits))
	return high.Add(high, sumOf(l[:half], bits))
}

// digitsOf are the digits of n, one by one, by rests that are moved to where digits lie.
func digitsOf(n *big.Int, bits int) []int64 {
	n = new(big.Int).Set(n)
	unit := new(big.Int).Lsh(big.NewInt(1), uint(bits))
	half := int64(1) << (bits - 1)
	l := []int64{}
	for n.Sign() != 0 {
		d := new(big.Int).Mod(n, unit).Int64()
		if d >= half {
			d -= 2 * half
		}
		l = append(l, d)
		n.Sub(n, big.NewInt(d))
		n.Quo(n, unit)
	}
	return l
}

// short tells the ends of a long list.
func short[T any](l []T) []T {
	if len(l) > 12 {
		return slices.Concat(l[:6], l[len(l)-6:])
	}
	return l
}

// holdDigits holds Digits against the one row that has the digits' limits, no 0 at its end, and the sum x.
func holdDigits(t *testing.T, x api.Int, bits int) []int64 {
	t.Helper()
	l, e := cut.Digits(x, bits)
	if e != api.OK {
		t.Fatalf("Digits(%v, %d): %v", short(x.Mag), bits, e)
	}
	half := int64(1) << (bits - 1)
	for i, d := range l {
		if d < -half || d >= half {
			t.Fatalf("Digits(%v, %d): at %d stands %d", short(x.Mag), bits, i, d)
		}
	}
	if n := len(l); n > 0 && l[n-1] == 0 {
		t.Fatalf("Digits(%v, %d) has a 0 at its end: %v", short(x.Mag), bits, short(l))
	}
	if sumOf(l, bits).Cmp(valueOf(x)) != 0 {
		t.Fatalf("Digits(%v, %d) of Neg %v has another sum: %v", short(x.Mag), bits, x.Neg, short(l))
	}
	return l
}

// holdRow holds Digits against a row that is known.
func holdRow(t *testing.T, x api.Int, bits int, want ...int64) {
	t.Helper()
	if l, e := cut.Digits(x, bits); e != api.OK || !slices.Equal(l, want) {
		t.Errorf("Digits(%v %v, %d) = %v, %v; wanted is %v", x.Neg, short(x.Mag), bits, short(l), e, short(want))
	}
}

// holdWhole holds Whole against what is wanted.
func holdWhole(t *testing.T, l []int64, bits int, want api.Int, err api.Errno) {
	t.Helper()
	if x, e := cut.Whole(l, bits); e != err || !same(x, want) {
		t.Errorf("Whole(%d numbers: %v, %d) = %v %v, %v; wanted is %v %v, %v", len(l), short(l), bits, x.Neg, short(x.Mag), e, want.Neg, short(want.Mag), err)
	}
}

// holdSum holds Whole against the sum that the library tells.
func holdSum(t *testing.T, l []int64, bits int) {
	t.Helper()
	want, err := rightOf(sumOf(l, bits))
	holdWhole(t, l, bits, want, err)
}

func holdWidth(t *testing.T, limbs, want int, err api.Errno) {
	t.Helper()
	if n, e := cut.Width(limbs); n != want || e != err {
		t.Errorf("Width(%d) = %d, %v; wanted are %d, %v", limbs, n, e, want, err)
	}
}

// widths are all bits that digits may have.
func widths() []int {
	l := []int{}
	for bits := 2; bits <= 30; bits++ {
		l = append(l, bits)
	}
	return l
}

// wrongWidths are bits that digits may not have; some would do if they were cut to fewer bits.
func wrongWidths() []int {
	return []int{1, 0, -1, -2, -8, 31, 32, 33, 63, 64, 66, 128, 1<<8 + 5, 1<<32 + 5, -1<<32 + 5, math.MinInt, math.MinInt + 5, math.MaxInt}
}

// rights are right whole numbers of few limbs, of both signs.
func rights() []api.Int {
	l := []api.Int{
		plus(1), plus(2), plus(3), plus(1 << 31), plus(1<<63 - 1), plus(1 << 63), plus(ones - 1), plus(ones),
		plus(0, 1), plus(1, 1), plus(ones, 1), plus(0, ones), plus(0, 1<<63), plus(ones, 1<<63-1), plus(0, 0, 1), plus(ones-1, ones, ones), plus(1<<63, 0, 1<<63), plus(0xaaaaaaaaaaaaaaaa, 0x5555555555555555),
		full(2), full(3), full(15), power(1000), power(64 * 15),
	}
	for _, x := range l {
		l = append(l, about(x))
	}
	return append(l, api.Int{}, api.Int{Mag: []uint64{}})
}

// longs are right whole numbers of the most limbs, or nearly, of both signs.
func longs() []api.Int {
	l := []api.Int{full(api.MaxLimbs), full(api.MaxLimbs - 1), power(maxBits - 1), power(maxBits - 64), drawn(rand.New(rand.NewSource(140)), api.MaxLimbs, true)}
	for _, x := range l {
		l = append(l, about(x))
	}
	return l
}

// wrongs are whole numbers that are not right, each by one fault alone.
func wrongs() []api.Int {
	long := full(api.MaxLimbs + 1)
	return []api.Int{
		{Neg: true}, {Neg: true, Mag: []uint64{}}, {Neg: true, Mag: make([]uint64, 0, 3)}, // no limbs and Neg
		plus(0), less(0), plus(1, 0), less(1, 0), plus(0, 0), plus(append(full(api.MaxLimbs-1).Mag, 0)...), // a 0 on top
		long, about(long), power(maxBits), about(power(maxBits)), // limbs
	}
}

// drawn is a right whole number of up to so many limbs, or of just as many, with runs of noughts and of ones.
func drawn(r *rand.Rand, limbs int, just bool) api.Int {
	n := limbs
	if !just {
		n = r.Intn(limbs + 1)
	}
	m := make([]uint64, n)
	for i := range m {
		m[i] = []uint64{0, ones, ones, 1, 1 << 63, r.Uint64(), r.Uint64() >> r.Intn(64)}[r.Intn(7)]
	}
	if n > 0 {
		m[n-1] |= 1 << r.Intn(64)
	}
	return of(n > 0 && r.Intn(2) == 0, m...)
}

// drawnRow is a row of any numbers: noughts, small ones, digits and one more of them, the ends of int64.
func drawnRow(r *rand.Rand, n, bits int) []int64 {
	half := int64(1) << (bits - 1)
	l := make([]int64, n)
	for i := range l {
		l[i] = []int64{0, 0, 1, -1, half, half - 1, -half, -half - 1, 2*half - 1, -2 * half, least, great, least + 1, int64(r.Uint64()), int64(r.Uint64()) >> r.Intn(64)}[r.Intn(15)]
	}
	return l
}

// P14.1: the chapter's examples.
func TestDigitsExamples(t *testing.T) {
	holdRow(t, small(5), 2, 1, 1)
	holdRow(t, small(2), 2, -2, 1)
	holdRow(t, small(-2), 2, -2)
	holdRow(t, small(-1), 2, -1)
	holdRow(t, small(0), 7)
	holdRow(t, small(100), 8, 100)
	holdRow(t, small(128), 8, -128, 1)
	holdRow(t, small(-128), 8, -128)
	holdRow(t, small(-129), 8, 127, -1)
	holdRow(t, plus(ones), 30, -1, 0, 16)
	holdRow(t, less(ones), 30, 1, 0, -16)
	// The third digit lies across two limbs: its bits are 60 to 89.
	holdRow(t, plus(0xa<<60, 0x1234567), 30, 0, 0, 0x1234567<<4|0xa)
	holdRow(t, less(0xa<<60, 0x1234567), 30, 0, 0, -(0x1234567<<4 | 0xa))
	holdRow(t, plus(0xf<<60, 0x1ffffff), 30, 0, 0, 1<<29-1)
	holdRow(t, plus(0, 0x2000000), 30, 0, 0, -1<<29, 1)
}

// P14.1: about each power of the digits' unit: the least digit, the greatest, the one beyond it on either side.
func TestDigitsEdges(t *testing.T) {
	for _, bits := range widths() {
		half := int64(1) << (bits - 1)
		for _, x := range []api.Int{{}, {Mag: []uint64{}}} {
			holdRow(t, x, bits)
		}
		for _, n := range []int64{1, -1, half - 1, -half, -half + 1} {
			holdRow(t, small(n), bits, n)
		}
		holdRow(t, small(half), bits, -half, 1)
		holdRow(t, small(half+1), bits, -half+1, 1)
		holdRow(t, small(-half-1), bits, half-1, -1)
		holdRow(t, small(2*half), bits, 0, 1)
		holdRow(t, small(-2*half), bits, 0, -1)
		holdRow(t, small(2*half-1), bits, -1, 1)
		holdRow(t, small(-2*half+1), bits, 1, -1)
		for n := 1; n*bits < 400; n++ {
			high := slices.Concat(make([]int64, n), []int64{1})
			holdRow(t, power(n*bits), bits, high...)
			high[n] = -1
			holdRow(t, about(power(n*bits)), bits, high...)
			high[n] = -half
			holdRow(t, about(power(n*bits+bits-1)), bits, high...)
			holdRow(t, power(n*bits+bits-1), bits, append(high, 1)...)
		}
	}
}

// P14.1: all small numbers, digit by digit.
func TestDigitsOfSmall(t *testing.T) {
	for _, bits := range []int{2, 3, 4, 5, 8} {
		for n := int64(-700); n <= 700; n++ {
			holdRow(t, small(n), bits, digitsOf(big.NewInt(n), bits)...)
		}
	}
}

// P14.1: all kinds of numbers at all bits, digit by digit.
func TestDigitsOfKinds(t *testing.T) {
	r := rand.New(rand.NewSource(141))
	l := rights()
	for range 200 {
		l = append(l, drawn(r, 6, false))
	}
	for _, bits := range widths() {
		for _, x := range l {
			holdRow(t, x, bits, digitsOf(valueOf(x), bits)...)
		}
	}
}

// P14.1: limbs that are all ones carry through all digits and, where half a digit lies on top, off the top.
func TestDigitsOfOnes(t *testing.T) {
	off := 0
	for _, bits := range widths() {
		for _, limbs := range []int{1, 2, 3, 4, 5, 6, 7, 8, 9, 10, 11, 12, 13, 14, 15, 30, 31, 100, api.MaxLimbs} {
			n, rest := 64*limbs/bits, 64*limbs%bits
			want := append([]int64{-1}, make([]int64, n)...)
			if want[n] = 1 << rest; rest == bits-1 {
				want[n] = -1 << rest
				want = append(want, 1)
				off++
			}
			holdRow(t, full(limbs), bits, want...)
			// Below 0 it is 1 and -2^(64 limbs), whose digit has room for the least one.
			want = append([]int64{1}, make([]int64, n)...)
			want[n] = -1 << rest
			holdRow(t, about(full(limbs)), bits, want...)
		}
	}
	if off < 10 {
		t.Error("too few carries off the top:", off)
	}
}

// P14.1: numbers of 4096 limbs.
func TestDigitsOfLong(t *testing.T) {
	for _, bits := range widths() {
		for _, x := range longs() {
			holdDigits(t, x, bits)
		}
	}
}

// P14.1: what is not right, and bits that may not be, alone and both at once.
func TestDigitsRefused(t *testing.T) {
	hold := func(x api.Int, bits int) {
		if l, e := cut.Digits(x, bits); e != api.ErrArg || len(l) != 0 {
			t.Errorf("Digits(%v %v, %d) = %v, %v", x.Neg, short(x.Mag), bits, short(l), e)
		}
	}
	for _, bits := range wrongWidths() {
		for _, x := range slices.Concat(rights(), longs(), wrongs()) {
			hold(x, bits)
		}
	}
	for _, bits := range widths() {
		for _, x := range wrongs() {
			hold(x, bits)
		}
	}
}

// P14.2: the chapter's examples.
func TestWholeExamples(t *testing.T) {
	holdWhole(t, []int64{1, 1}, 2, small(5), api.OK)
	holdWhole(t, []int64{3, 3, 3}, 2, small(63), api.OK)
	holdWhole(t, []int64{least}, 30, less(1<<63), api.OK)
	holdWhole(t, nil, 9, api.Int{}, api.OK)
	holdWhole(t, []int64{}, 9, api.Int{}, api.OK)
	holdWhole(t, []int64{1}, 1, api.Int{}, api.ErrArg)
}

// P14.2: the ends of int64, alone, beside each other and of unlike signs, where what is carried comes close to wrapping.
func TestWholeEnds(t *testing.T) {
	ends := []int64{least, least + 1, great, great - 1, 0, 1, -1}
	for _, bits := range widths() {
		for _, a := range ends {
			holdWhole(t, []int64{a}, bits, small(a), api.OK)
			for _, b := range ends {
				holdSum(t, []int64{a, b}, bits)
				holdSum(t, []int64{a, a, b}, bits)
				for _, n := range []int{1, 2, 31, 32, 33, 100} {
					holdSum(t, slices.Repeat([]int64{a, b}, n), bits)
					holdSum(t, slices.Concat(slices.Repeat([]int64{a}, n), slices.Repeat([]int64{b}, n)), bits)
				}
			}
		}
	}
}

// P14.2: rows of any numbers, drawn, and with noughts at their end.
func TestWholeDrawn(t *testing.T) {
	r := rand.New(rand.NewSource(142))
	for _, bits := range widths() {
		for i := range 300 {
			l := drawnRow(r, i/4, bits)
			holdSum(t, l, bits)
			want, _ := cut.Whole(l, bits)
			holdWhole(t, append(l, make([]int64, 1+i%90)...), bits, want, api.OK)
		}
	}
	for _, bits := range []int{2, 3, 13, 16, 29, 30} {
		for _, n := range []int{1000, 5000, 8000} {
			holdSum(t, drawnRow(r, n, bits), bits)
		}
	}
}

// P14.2: sums that are 0 of rows that are not; noughts alone.
func TestWholeIsNought(t *testing.T) {
	for _, bits := range widths() {
		unit := int64(1) << bits
		for _, l := range [][]int64{
			{0}, {0, 0, 0}, make([]int64, 1000), {unit, -1}, {-unit, 1}, {0, 0, -unit, 1, 0}, {unit, unit - 1, -1}, {-unit, -unit + 1, 1}, {unit, -unit - 1, 1}, {least, 1 << (63 - bits)}, {0, least, 1 << (63 - bits), 0},
		} {
			holdWhole(t, l, bits, api.Int{}, api.OK)
		}
	}
}

// lone is a row with one number alone, at the place where the power lies: it sums up to times 2^power.
func lone(power, bits int, times int64) []int64 {
	return append(make([]int64, power/bits), times<<(power%bits))
}

// longer is a row of the same sum that is longer by n, as what is put to one place is taken off at the next.
func longer(l []int64, n, bits int) []int64 {
	unit := int64(1) << bits
	l = append(slices.Clone(l), make([]int64, n)...)
	for i := len(l) - n; i < len(l); i++ {
		l[i-1] += unit * 5
		l[i] -= 5
	}
	return l
}

// P14.2: 2^262144 and -2^262144 are too long, one nearer to 0 is not, also where the row alone is longer.
func TestWholeTooLong(t *testing.T) {
	top := full(api.MaxLimbs)
	for _, bits := range widths() {
		for _, n := range []int{0, 1, 2, 40, 3000} {
			over := longer(lone(maxBits, bits, 1), n, bits)
			under := longer(lone(maxBits, bits, -1), n, bits)
			holdWhole(t, over, bits, api.Int{}, api.ErrLong)
			holdWhole(t, under, bits, api.Int{}, api.ErrLong)
			over[0]--
			under[0]++
			holdWhole(t, over, bits, top, api.OK)
			holdWhole(t, under, bits, about(top), api.OK)
			over[0] += 2
			under[0] -= 2
			holdWhole(t, over, bits, api.Int{}, api.ErrLong)
			holdWhole(t, under, bits, api.Int{}, api.ErrLong)
		}
		// A row that is shorter than the sum.
		high := make([]int64, maxBits/bits)
		high[len(high)-1] = great
		holdWhole(t, high, bits, api.Int{}, api.ErrLong)
		high[len(high)-1] = least
		holdWhole(t, high, bits, api.Int{}, api.ErrLong)
		holdWhole(t, lone(maxBits-1, bits, 1), bits, power(maxBits-1), api.OK)
		holdWhole(t, lone(maxBits-1, bits, -1), bits, about(power(maxBits-1)), api.OK)
		holdWhole(t, lone(2*maxBits, bits, 1), bits, api.Int{}, api.ErrLong)
		holdWhole(t, lone(2*maxBits, bits, -1), bits, api.Int{}, api.ErrLong)
	}
}

// P14.2: long rows of short sums: noughts behind, and a carry that goes all the way up, where it comes to nothing.
func TestWholeOfLongRows(t *testing.T) {
	for _, bits := range []int{2, 7, 16, 30} {
		n := 3 * maxBits / bits
		holdWhole(t, append([]int64{-9}, make([]int64, n)...), bits, small(-9), api.OK)
		unit := int64(1) << bits
		l := slices.Repeat([]int64{unit - 1}, n)
		l[n-1] = -1
		l[0] = unit
		holdWhole(t, l, bits, api.Int{}, api.OK)
		l[0] = unit - 7
		holdWhole(t, l, bits, small(-7), api.OK)
		l[0] = unit + 7
		holdWhole(t, l, bits, small(7), api.OK)
		l[n-1] = 0
		holdWhole(t, l, bits, api.Int{}, api.ErrLong)
	}
}

// P14.2: ErrArg, ahead of ErrLong, whatever the row.
func TestWholeRefused(t *testing.T) {
	for _, bits := range wrongWidths() {
		for _, l := range [][]int64{nil, {}, {0}, {1}, {1, -1}, {least, great}, lone(1<<20, 2, 1)} {
			holdWhole(t, l, bits, api.Int{}, api.ErrArg)
		}
	}
}

// P14.3: the chapter's examples, and what is far outside.
func TestWidthExamples(t *testing.T) {
	holdWidth(t, 1, 20, api.OK)
	holdWidth(t, 100, 15, api.OK)
	holdWidth(t, 1535, 12, api.OK)
	holdWidth(t, 1536, 0, api.ErrLong)
	holdWidth(t, api.MaxLimbs, 0, api.ErrLong)
	for _, n := range []int{0, -1, -100, api.MaxLimbs + 1, 1 << 32, 1<<32 + 1, math.MaxInt, math.MinInt, math.MinInt + 1} {
		holdWidth(t, n, 0, api.ErrArg)
	}
}

// widthOf is the width by P14.3's words; 0, if there is none.
func widthOf(limbs int, below func(order, bits int) bool) int {
	width := 0
	for bits := 2; bits <= 30; bits++ {
		m, k := limbs*64/bits+2, 0
		for 1<<k < 2*m {
			k++
		}
		if k <= api.MaxOrder && below(k, bits) {
			width = bits
		}
	}
	return width
}

// ringBelow asks fault whether the bound is below 1/4.
func ringBelow(order, bits int) bool {
	f, e := fault.Ring(order, math.Ldexp(1, bits-1), math.Ldexp(1, bits-1))
	return e == api.OK && f < 0.25
}

// exactBelow asks it of the bound that is not rounded, 16 (k + 1) u 2^k R A B: whether its square is below 1/16. (It is never 1/4 itself.)
func exactBelow(order, bits int) bool {
	square := big.NewInt(int64(16 * (order + 1)))
	square.Mul(square, square)
	square.Lsh(square, uint(3*order+4*(bits-1)))
	return square.Cmp(new(big.Int).Lsh(big.NewInt(1), 106-4)) < 0
}

// P14.3, P14.4: every number of limbs, by the promise's words and by the exact bound; it never rises, and is told up to 1535.
func TestWidthOfAll(t *testing.T) {
	last := 30
	for limbs := 1; limbs <= api.MaxLimbs; limbs++ {
		want, err := widthOf(limbs, ringBelow), api.OK
		if want == 0 {
			err = api.ErrLong
		}
		holdWidth(t, limbs, want, err)
		if exact := widthOf(limbs, exactBelow); exact != want {
			t.Errorf("Width(%d): %d by the exact bound, %d by fault's", limbs, exact, want)
		}
		n, e := cut.Width(limbs)
		if n > last || (e == api.OK) != (limbs <= 1535) {
			t.Errorf("Width(%d) = %d, %v, behind %d", limbs, n, e, last)
		}
		last = n
	}
}

// spoil overwrites all that a list has, its spare room too.
func spoil[T int64 | uint64](l []T) {
	l = l[:cap(l)]
	for i := range l {
		l[i] = 7
	}
}

// R3: numbers and rows are only read, their spare room too; answers are the caller's own.
func TestMemory(t *testing.T) {
	r := rand.New(rand.NewSource(143))
	for i := range 300 {
		bits := 2 + i%29
		x := drawn(r, 5, false)
		room := append(slices.Clone(x.Mag), 11, 12, 13)
		x.Mag = room[:len(x.Mag)]
		keep := slices.Clone(room)
		first, _ := cut.Digits(x, bits)
		second, _ := cut.Digits(x, bits)
		digits := slices.Clone(first)
		spoil(second)
		if !slices.Equal(first, digits) {
			t.Fatal("two rows share memory")
		}
		spoil(first)
		if !slices.Equal(room, keep) {
			t.Fatalf("Digits changes what it is handed: %v", keep)
		}
		holdRow(t, x, bits, digits...)

		long := append(drawnRow(r, i%20, bits), 21, 22, 23)
		l, keepRow := long[:len(long)-3], slices.Clone(long)
		a, _ := cut.Whole(l, bits)
		b, _ := cut.Whole(l, bits)
		sum := of(a.Neg, slices.Clone(a.Mag)...)
		spoil(b.Mag)
		if !same(a, sum) {
			t.Fatal("two numbers share memory")
		}
		spoil(a.Mag)
		if !slices.Equal(long, keepRow) {
			t.Fatalf("Whole changes what it is handed: %v", keepRow)
		}
		holdWhole(t, l, bits, sum, api.OK)
	}
}

// R4: calls side by side, of the same numbers, tell what they tell one by one.
func TestSideBySide(t *testing.T) {
	x := drawn(rand.New(rand.NewSource(144)), 700, true)
	want, _ := cut.Digits(x, 13)
	var group sync.WaitGroup
	for range 8 {
		group.Go(func() {
			if l, e := cut.Digits(x, 13); e != api.OK || !slices.Equal(l, want) {
				t.Error("Digits tells another row")
			}
			if y, e := cut.Whole(want, 13); e != api.OK || !same(x, y) {
				t.Error("Whole tells another number")
			}
			holdWidth(t, 100, 15, api.OK)
		})
	}
	group.Wait()
}
