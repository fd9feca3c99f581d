package times_test

import (
	"encoding/binary"
	"fmt"
	"math"
	"math/big"
	"math/bits"
	"math/rand"
	"slices"
	"sync"
	"testing"

	"rosette/api"
	"rosette/cut"
	"rosette/limb"
	"rosette/times"
)

const (
	ones    = 1<<64 - 1
	maxBits = 64 * api.MaxLimbs
	// widest is the greatest number of limbs that has a width.
	widest = 1535
)

func of(neg bool, l ...uint64) api.Int { return api.Int{Neg: neg, Mag: l} }

func plus(l ...uint64) api.Int { return of(false, l...) }

func less(l ...uint64) api.Int { return of(true, l...) }

// about is 0 less x.
func about(x api.Int) api.Int { return of(!x.Neg && len(x.Mag) > 0, x.Mag...) }

func same(a, b api.Int) bool { return a.Neg == b.Neg && slices.Equal(a.Mag, b.Mag) }

// full has so many limbs, all ones: 2^(64 limbs) - 1.
func full(limbs int) api.Int { return plus(slices.Repeat([]uint64{ones}, limbs)...) }

// power is 2^n.
func power(n int) api.Int {
	m := make([]uint64, n/64+1)
	m[n/64] = 1 << (n % 64)
	return plus(m...)
}

// small is n as a whole number.
func small(n int64) api.Int {
	x, _ := rightOf(big.NewInt(n))
	return x
}

// valueOf is what x is, as a whole number of the library.
func valueOf(x api.Int) *big.Int {
	b := make([]byte, 0, 8*len(x.Mag))
	for _, l := range slices.Backward(x.Mag) {
		b = binary.BigEndian.AppendUint64(b, l)
	}
	n := new(big.Int).SetBytes(b)
	if x.Neg {
		n.Neg(n)
	}
	return n
}

// rightOf is the right whole number of n, or ErrLong.
func rightOf(n *big.Int) (api.Int, api.Errno) {
	if n.BitLen() > maxBits {
		return api.Int{}, api.ErrLong
	}
	x := api.Int{Neg: n.Sign() < 0}
	b := new(big.Int).Abs(n).FillBytes(make([]byte, (n.BitLen()+63)/64*8))
	for i := len(b); i > 0; i -= 8 {
		x.Mag = append(x.Mag, binary.BigEndian.Uint64(b[i-8:]))
	}
	return x, api.OK
}

// productOf is the product as the library tells it, or ErrLong.
func productOf(a, b api.Int) (api.Int, api.Errno) {
	return rightOf(new(big.Int).Mul(valueOf(a), valueOf(b)))
}

// powerOf is the power as the library tells it, or ErrLong.
func powerOf(a api.Int, n int) (api.Int, api.Errno) {
	return rightOf(new(big.Int).Exp(valueOf(a), big.NewInt(int64(n)), nil))
}

// rights are right whole numbers of few limbs, of both signs.
func rights() []api.Int {
	l := []api.Int{
		plus(1), plus(2), plus(3), plus(1<<32 - 1), plus(1 << 32), plus(1<<63 - 1), plus(1 << 63), plus(ones - 1), plus(ones),
		plus(0, 1), plus(1, 1), plus(ones, 1), plus(0, ones), plus(ones, 1<<63-1), plus(0, 0, 1), plus(1, 0, 1), plus(ones-1, ones, ones), plus(1<<63, 0, 1<<63), plus(0xaaaaaaaaaaaaaaaa, 0x5555555555555555),
		full(2), full(3), full(7), power(500), power(64 * 7),
	}
	for _, x := range l {
		l = append(l, about(x))
	}
	return append(l, api.Int{}, api.Int{Mag: []uint64{}})
}

// longs are right whole numbers of many limbs, of both signs.
func longs() []api.Int {
	r := rand.New(rand.NewSource(150))
	l := []api.Int{full(api.MaxLimbs), full(api.MaxLimbs - 1), full(widest), full(widest + 1), power(maxBits - 1), power(maxBits - 64), power(64 * widest), drawn(r, api.MaxLimbs), drawn(r, 2048), drawn(r, 2049)}
	for _, x := range l {
		l = append(l, about(x))
	}
	return l
}

// wrongs are whole numbers that are not right, each by one fault alone.
func wrongs() []api.Int {
	long := full(api.MaxLimbs + 1)
	return []api.Int{
		{Neg: true}, {Neg: true, Mag: []uint64{}}, {Neg: true, Mag: make([]uint64, 0, 3)}, // no limbs and Neg
		plus(0), less(0), plus(1, 0), less(1, 0), plus(0, 0), plus(ones, ones, 0), plus(append(full(api.MaxLimbs-1).Mag, 0)...), // a 0 on top
		long, about(long), power(maxBits), about(power(maxBits)), full(5000), // limbs
	}
}

// drawn is a right whole number of so many limbs, of either sign, with runs of noughts and of ones.
func drawn(r *rand.Rand, limbs int) api.Int {
	m := make([]uint64, limbs)
	for i := 0; i < limbs; {
		kind, run := r.Intn(7), 1
		if kind < 3 && r.Intn(3) == 0 {
			run = 1 + r.Intn(limbs)
		}
		for ; run > 0 && i < limbs; run-- {
			m[i] = []uint64{0, ones, ones, 1, 1 << 63, r.Uint64(), r.Uint64() >> r.Intn(64)}[kind]
			i++
		}
	}
	if limbs > 0 {
		m[limbs-1] |= 1 << r.Intn(64)
	}
	return of(limbs > 0 && r.Intn(2) == 0, m...)
}

// short tells a number of few limbs whole, and the ends of others.
func short(x api.Int) string {
	if n := len(x.Mag); n > 8 {
		return fmt.Sprintf("{%v %d limbs: %v .. %v}", x.Neg, n, x.Mag[:3], x.Mag[n-3:])
	}
	return fmt.Sprint(x)
}

type way struct {
	name string
	call func(a, b api.Int) (api.Int, api.Errno)
}

// exact are the ways that tell every product that is not too long.
var exact = []way{{"School", times.School}, {"Halves", times.Halves}, {"Mul", times.Mul}}

var wheel = way{"Wheel", times.Wheel}

// all are all ways.
var all = append(slices.Clone(exact), wheel)

// hold holds what a way tells against what is wanted, either factor first.
func (w way) hold(t *testing.T, a, b, want api.Int, err api.Errno) {
	t.Helper()
	for _, p := range [][2]api.Int{{a, b}, {b, a}} {
		x, e := w.call(p[0], p[1])
		if e != err || !same(x, want) {
			t.Errorf("%s of %s, %s: %s, %v; wanted are %s, %v", w.name, short(p[0]), short(p[1]), short(x), e, short(want), err)
		}
	}
}

// holdExact holds the exact ways.
func holdExact(t *testing.T, a, b, want api.Int, err api.Errno) {
	t.Helper()
	for _, w := range exact {
		w.hold(t, a, b, want, err)
	}
}

// holdWheel holds Wheel: where the others tell a product that is not 0, it may have no bound.
func holdWheel(t *testing.T, a, b, want api.Int, err api.Errno) {
	t.Helper()
	if len(want.Mag) > 0 && max(len(a.Mag), len(b.Mag)) > widest {
		want, err = api.Int{}, api.ErrBound
	}
	wheel.hold(t, a, b, want, err)
}

func holdAll(t *testing.T, a, b, want api.Int, err api.Errno) {
	t.Helper()
	holdExact(t, a, b, want, err)
	holdWheel(t, a, b, want, err)
}

// holdSigns holds all ways at all four pairs of signs of two sizes.
func holdSigns(t *testing.T, a, b, want api.Int, err api.Errno) {
	t.Helper()
	holdAll(t, a, b, want, err)
	holdAll(t, about(a), b, about(want), err)
	holdAll(t, a, about(b), about(want), err)
	holdAll(t, about(a), about(b), want, err)
}

func holdSquare(t *testing.T, a, want api.Int, err api.Errno) {
	t.Helper()
	if x, e := times.Square(a); e != err || !same(x, want) {
		t.Errorf("Square of %s: %s, %v; wanted are %s, %v", short(a), short(x), e, short(want), err)
	}
}

func holdPower(t *testing.T, a api.Int, n int, want api.Int, err api.Errno) {
	t.Helper()
	if x, e := times.Power(a, n); e != err || !same(x, want) {
		t.Errorf("%s to the power %d: %s, %v; wanted are %s, %v", short(a), n, short(x), e, short(want), err)
	}
}

// P15.1, P15.2, P15.3: what the chapter and DOC.md write out.
func TestExamples(t *testing.T) {
	holdAll(t, plus(ones), plus(ones), plus(1, ones-1), api.OK)
	holdAll(t, less(3), plus(5), less(15), api.OK)
	holdAll(t, api.Int{}, less(7), api.Int{}, api.OK)
	holdSquare(t, plus(ones), plus(1, ones-1), api.OK)
	holdPower(t, plus(3), 4, plus(81), api.OK)
	holdPower(t, api.Int{}, 0, plus(1), api.OK)
	holdPower(t, less(1), 1<<62, plus(1), api.OK)
	holdPower(t, plus(2), 262143, power(262143), api.OK)
	holdPower(t, plus(2), 262144, api.Int{}, api.ErrLong)
	holdPower(t, plus(2), -1, api.Int{}, api.ErrArg)
	for _, w := range all {
		w.hold(t, full(2049), full(2049), api.Int{}, api.ErrLong)
		w.hold(t, power(64*2048), power(64*2048), api.Int{}, api.ErrLong)
	}
	holdExact(t, power(131008), power(131008), power(262016), api.OK)
	wheel.hold(t, power(131008), power(131008), api.Int{}, api.ErrBound)
}

// P15.1, P15.2: all small numbers, of both signs.
func TestSmall(t *testing.T) {
	for a := int64(-12); a <= 12; a++ {
		for b := a; b <= 12; b++ {
			holdAll(t, small(a), small(b), small(a*b), api.OK)
		}
		holdSquare(t, small(a), small(a*a), api.OK)
	}
}

// P15.1, P15.2: factors of one limb, whose product has one or two.
func TestSingleLimbs(t *testing.T) {
	r := rand.New(rand.NewSource(151))
	l := []uint64{1, 2, 3, 1<<32 - 1, 1 << 32, 1<<32 + 1, 1<<63 - 1, 1 << 63, 1<<63 + 1, ones - 1, ones}
	for range 20 {
		l = append(l, 1+r.Uint64()>>r.Intn(64)>>1)
	}
	for _, a := range l {
		for _, b := range l {
			high, low := bits.Mul64(a, b)
			want := plus(low)
			if high > 0 {
				want = plus(low, high)
			}
			holdSigns(t, plus(a), plus(b), want, api.OK)
		}
	}
}

// P15.1, P15.2: all pairs of all kinds, against the library.
func TestKinds(t *testing.T) {
	t.Parallel()
	l := rights()
	for i, a := range l {
		for _, b := range l[i:] {
			want, err := productOf(a, b)
			holdAll(t, a, b, want, err)
		}
	}
}

// onesTimesOnes is the product of n and m limbs that are all ones, n not less than m: 2^64(n+m) - 2^64n - 2^64m + 1, limb by limb.
func onesTimesOnes(n, m int) api.Int {
	l := make([]uint64, n+m)
	for i := m; i < n+m; i++ {
		l[i] = ones
	}
	l[0] = 1
	l[n]--
	return plus(l...)
}

// P15.1, P15.2: limbs that are all ones, so that every carry is there, at all lengths, like and unlike.
func TestOnes(t *testing.T) {
	t.Parallel()
	for n := 1; n <= 90; n++ {
		for m := 1; m <= n; m++ {
			a, b, want := full(n), full(m), onesTimesOnes(n, m)
			holdExact(t, a, b, want, api.OK)
			if n <= 12 {
				holdSigns(t, a, b, want, api.OK)
			}
		}
	}
	for _, p := range [][2]int{{90, 90}, {100, 7}, {333, 332}, {1000, 1}} {
		holdAll(t, full(p[0]), full(p[1]), onesTimesOnes(p[0], p[1]), api.OK)
	}
	for _, p := range [][2]int{{1024, 1024}, {1023, 1025}, {2047, 2048}, {2048, 2048}, {3000, 1096}, {4000, 96}, {4095, 1}} {
		n, m := max(p[0], p[1]), min(p[0], p[1])
		holdExact(t, full(n), about(full(m)), about(onesTimesOnes(n, m)), api.OK)
	}
}

// P15.1: drawn factors of all small lengths, so of odd ones and of unlike ones, with noughts within.
func TestLengths(t *testing.T) {
	t.Parallel()
	r := rand.New(rand.NewSource(152))
	for n := 1; n <= 100; n++ {
		for m := 1; m <= n; m++ {
			a, b := drawn(r, n), drawn(r, m)
			want, err := productOf(a, b)
			holdExact(t, a, b, want, err)
		}
	}
}

// P15.1: drawn factors of many limbs.
func TestLongFactors(t *testing.T) {
	t.Parallel()
	r := rand.New(rand.NewSource(153))
	for range 12 {
		together := 200 + r.Intn(3896)
		n := 1 + r.Intn(together-1)
		a, b := drawn(r, n), drawn(r, together-n)
		want, err := productOf(a, b)
		holdExact(t, a, b, want, err)
	}
	for _, p := range [][2]int{{2048, 2048}, {2047, 2049}, {4094, 2}, {4093, 3}, {2731, 1365}, {129, 3967}} {
		a, b := drawn(r, p[0]), drawn(r, p[1])
		want, err := productOf(a, b)
		holdExact(t, a, b, want, err)
	}
}

// P15.2: drawn factors of all kinds of lengths, as far as they have a width.
func TestWheelLengths(t *testing.T) {
	t.Parallel()
	r := rand.New(rand.NewSource(154))
	for n := 1; n <= 24; n++ {
		for m := 1; m <= n; m += 1 + n/8 {
			a, b := drawn(r, n), drawn(r, m)
			want, err := productOf(a, b)
			wheel.hold(t, a, b, want, err)
		}
	}
	for _, p := range [][2]int{{40, 40}, {41, 83}, {64, 1}, {127, 128}, {200, 5}, {301, 300}, {700, 2}, {767, 768}, {1000, 999}, {widest, widest}} {
		a, b := drawn(r, p[0]), drawn(r, p[1])
		want, err := productOf(a, b)
		wheel.hold(t, a, b, want, err)
	}
}

// P15.1, P15.2: factors of one bit each, all else noughts.
func TestPowersOfTwo(t *testing.T) {
	t.Parallel()
	for _, i := range []int{0, 1, 31, 63, 64, 65, 127, 128, 192, 640, 64*13 + 5} {
		for _, j := range []int{0, 1, 32, 63, 64, 127, 191, 320, 64 * 12, 64*13 + 59} {
			holdSigns(t, power(i), power(j), power(i+j), api.OK)
		}
	}
	for _, i := range []int{0, 1, 64, 5000, 131071, 131072, 200001, 262000} {
		holdExact(t, power(i), about(power(262143-i)), about(power(262143)), api.OK)
	}
}

// join is the number of two halves, the lower one of so many limbs; the higher one has no nought on top.
func join(low, high uint64, limbs int) api.Int {
	l := make([]uint64, 2*limbs)
	l[0], l[limbs-1] = l[0]|low, l[limbs-1]|low
	l[limbs], l[2*limbs-1] = l[limbs]|high, l[2*limbs-1]|high
	return plus(l...)
}

// P15.1: halves that are below one another, above, the same, nought, in either factor.
func TestHalvesApart(t *testing.T) {
	for _, limbs := range []int{1, 2, 3, 21, 40, 41, 50} {
		numbers := []api.Int{}
		for _, low := range []uint64{0, 1, 5, 9, ones} {
			for _, high := range []uint64{1, 5, 9, ones} {
				numbers = append(numbers, join(low, high, limbs))
			}
		}
		for i, a := range numbers {
			for _, b := range numbers[i:] {
				want, err := productOf(a, b)
				holdExact(t, a, b, want, err)
			}
		}
	}
}

// sharp are all right numbers of up to so many limbs, each of them 0, 1 or all ones.
func sharp(limbs int) []api.Int {
	rows := [][]uint64{nil}
	l := []api.Int{}
	for range limbs {
		longer := [][]uint64{}
		for _, row := range rows {
			for _, top := range []uint64{0, 1, ones} {
				more := append(slices.Clone(row), top)
				longer = append(longer, more)
				if top != 0 {
					l = append(l, plus(more...))
				}
			}
		}
		rows = longer
	}
	return l
}

// P15.1: all pairs of numbers of few limbs that carry all the way, or not at all.
func TestSharpLimbs(t *testing.T) {
	t.Parallel()
	l := sharp(4)
	for i, a := range l {
		for _, b := range l[i:] {
			want, err := productOf(a, b)
			holdExact(t, a, b, want, err)
		}
	}
}

// P15.1, P15.2: 0 from either side, beside every right number: without limbs and without a sign.
func TestNought(t *testing.T) {
	for _, nought := range []api.Int{{}, {Mag: []uint64{}}, {Mag: make([]uint64, 0, 5)}} {
		for _, x := range append(rights(), longs()...) {
			for _, w := range all {
				w.hold(t, nought, x, api.Int{}, api.OK)
			}
		}
		holdSquare(t, nought, api.Int{}, api.OK)
	}
}

// P15.1, P15.2: 1 and -1 beside every right number.
func TestOne(t *testing.T) {
	t.Parallel()
	for _, x := range append(rights(), longs()...) {
		holdAll(t, plus(1), x, x, api.OK)
		holdAll(t, less(1), x, about(x), api.OK)
	}
}

// P15.1, P15.2: ErrArg ahead of all else, from either side: ahead of 0, ahead of what is too long.
func TestRefused(t *testing.T) {
	others := slices.Concat([]api.Int{{}, plus(1), less(1), full(3), full(api.MaxLimbs), about(full(api.MaxLimbs)), power(64 * 2048)}, wrongs())
	for _, x := range wrongs() {
		for _, y := range others {
			for _, w := range all {
				w.hold(t, x, y, api.Int{}, api.ErrArg)
			}
		}
		holdSquare(t, x, api.Int{}, api.ErrArg)
	}
}

// edges are pairs of factors, beside each the greatest that its product has room for.
func edges() [][2]api.Int {
	r := rand.New(rand.NewSource(155))
	top := valueOf(full(api.MaxLimbs))
	l := [][2]api.Int{}
	firsts := []api.Int{plus(1), plus(2), plus(3), plus(ones), plus(0, 1), plus(1, 1), full(40), full(2048), power(64 * 2048), power(131071), plus(append(append([]uint64{1}, make([]uint64, 2047)...), 1)...)}
	for _, limbs := range []int{1, 2, 3, 40, 41, 42, 1000, 1535, 1536, 2047, 2048, 2049} {
		a := drawn(r, limbs)
		firsts = append(firsts, plus(a.Mag...))
	}
	for _, a := range firsts {
		b, _ := rightOf(new(big.Int).Quo(top, valueOf(a)))
		l = append(l, [2]api.Int{a, b})
	}
	return l
}

// next is x and 1, x being not below 0; it may be too long for a right number.
func next(x api.Int) api.Int {
	l := append(slices.Clone(x.Mag), 0)
	for i := range l {
		if l[i]++; l[i] != 0 {
			break
		}
	}
	if l[len(l)-1] == 0 {
		l = l[:len(l)-1]
	}
	return plus(l...)
}

// P15.1, P15.2: products that just have room in 4096 limbs, and such as just have none, of either sign, by every way.
func TestJustTooLong(t *testing.T) {
	t.Parallel()
	for _, p := range edges() {
		a, b := p[0], p[1]
		want, err := productOf(a, b)
		if err != api.OK || len(want.Mag) != api.MaxLimbs {
			t.Fatalf("%s and %s are no edge", short(a), short(b))
		}
		holdAll(t, a, b, want, api.OK)
		holdAll(t, about(a), b, about(want), api.OK)
		// Beside 1 the next factor is not right itself.
		if b = next(b); limb.Right(b) {
			holdAll(t, a, b, api.Int{}, api.ErrLong)
			holdAll(t, a, about(b), api.Int{}, api.ErrLong)
		}
	}
}

// P15.1, P15.2: 2^262144 is too long, as any factors make it; half of it is not, nor is the number below it.
func TestTheLeastTooLong(t *testing.T) {
	t.Parallel()
	for _, i := range []int{1, 63, 64, 1000, 131071, 131072} {
		holdSigns(t, power(i), power(maxBits-i), api.Int{}, api.ErrLong)
		holdAll(t, about(power(i)), power(maxBits-1-i), about(power(maxBits-1)), api.OK)
	}
	low := full(2048)
	high := next(next(low))
	holdSigns(t, low, high, full(api.MaxLimbs), api.OK)
	holdSigns(t, next(low), next(low), api.Int{}, api.ErrLong)
	holdAll(t, low, next(high), api.Int{}, api.ErrLong)
	holdAll(t, next(low), high, api.Int{}, api.ErrLong)
}

// P15.1, P15.2: factors that have more limbs than 4097 together; those of 4096 together always have room.
func TestTooLong(t *testing.T) {
	for _, p := range [][2]int{{2, 4096}, {3, 4095}, {40, 4058}, {1535, 2563}, {1536, 2562}, {2048, 2050}, {2049, 2049}, {3000, 3000}, {4096, 4096}} {
		for _, a := range []api.Int{full(p[0]), power(64 * (p[0] - 1))} {
			for _, b := range []api.Int{full(p[1]), power(64 * (p[1] - 1))} {
				holdSigns(t, a, b, api.Int{}, api.ErrLong)
			}
		}
		a, b := power(64*(p[0]-1)), power(64*(api.MaxLimbs-p[0]))
		if p[0] < api.MaxLimbs {
			holdExact(t, a, b, power(64*(api.MaxLimbs-1)), api.OK)
		}
	}
}

// P15.2: the longer factor has a width up to 1535 limbs, whatever the shorter one is; what is too long comes ahead of that.
func TestWheelBound(t *testing.T) {
	t.Parallel()
	if _, e := cut.Width(widest); e != api.OK {
		t.Fatal(e)
	}
	if _, e := cut.Width(widest + 1); e == api.OK {
		t.Fatal("a width beyond the widest")
	}
	for _, n := range []int{1, 2, 700, widest} {
		b := about(full(n))
		wheel.hold(t, full(widest), b, about(onesTimesOnes(widest, n)), api.OK)
		wheel.hold(t, full(widest+1), b, api.Int{}, api.ErrBound)
		wheel.hold(t, power(64*widest), b, api.Int{}, api.ErrBound)
		wheel.hold(t, full(2500), b, api.Int{}, api.ErrBound)
	}
	for _, n := range []int{widest + 1, 2000, 2560} {
		wheel.hold(t, full(widest+1), full(n), api.Int{}, api.ErrBound)
	}
	// Of 4097 limbs together: the product settles it.
	wheel.hold(t, full(widest+1), full(2561), api.Int{}, api.ErrLong)
	wheel.hold(t, power(64*widest), full(2561), api.Int{}, api.ErrBound)
	wheel.hold(t, full(widest), full(2562), api.Int{}, api.ErrLong)
	wheel.hold(t, power(64*(widest-1)), full(2562), api.Int{}, api.ErrBound)
	wheel.hold(t, plus(1), full(api.MaxLimbs), api.Int{}, api.ErrBound)
	wheel.hold(t, less(2), power(maxBits-2), api.Int{}, api.ErrBound)
	wheel.hold(t, less(2), power(maxBits-1), api.Int{}, api.ErrLong)
	wheel.hold(t, full(widest+1), full(2562), api.Int{}, api.ErrLong)
}

// P15.1: Square is Mul of a number and itself, of every kind.
func TestSquare(t *testing.T) {
	t.Parallel()
	r := rand.New(rand.NewSource(156))
	l := append(rights(), longs()...)
	for n := range 130 {
		l = append(l, drawn(r, n))
	}
	l = append(l, full(2047), full(2048), about(full(2048)), power(131071), power(131072), about(power(131072)), next(power(131071)))
	for _, a := range l {
		want, err := productOf(a, a)
		holdSquare(t, a, want, err)
		if x, e := times.Mul(a, a); e != err || !same(x, want) {
			t.Errorf("Mul of %s and itself: %s, %v", short(a), short(x), e)
		}
	}
}

// P15.3: small numbers, to all small powers.
func TestPowers(t *testing.T) {
	t.Parallel()
	r := rand.New(rand.NewSource(157))
	for a := int64(-11); a <= 11; a++ {
		for n := range 70 {
			want, err := powerOf(small(a), n)
			holdPower(t, small(a), n, want, err)
		}
	}
	for range 200 {
		a, n := drawn(r, r.Intn(9)), r.Intn(40)
		want, err := powerOf(a, n)
		holdPower(t, a, n, want, err)
	}
	for _, n := range []int{127, 128, 129, 1000, 1023, 1024, 4095} {
		for _, a := range []api.Int{plus(3), less(10), less(ones), plus(0, 1)} {
			want, err := powerOf(a, n)
			holdPower(t, a, n, want, err)
		}
	}
}

// P15.3: to the power 0 every number is 1, also 0 and the longest; to the power 1 itself.
func TestPowerNoughtAndOne(t *testing.T) {
	for _, a := range append(rights(), longs()...) {
		holdPower(t, a, 0, plus(1), api.OK)
		holdPower(t, a, 1, a, api.OK)
	}
	for _, a := range []api.Int{full(api.MaxLimbs), about(full(api.MaxLimbs)), power(maxBits - 1), about(power(maxBits - 64)), full(2049)} {
		for _, n := range []int{2, 3, 4, 1 << 40, math.MaxInt} {
			holdPower(t, a, n, api.Int{}, api.ErrLong)
		}
	}
}

// P15.3: very great powers of 0, 1 and -1 are told, of all others too long.
func TestVeryGreatPowers(t *testing.T) {
	for _, n := range []int{262144, 262145, 1 << 31, 1<<31 + 1, 1 << 32, 1<<32 + 1, 1 << 62, 1<<62 + 1, math.MaxInt - 1, math.MaxInt} {
		holdPower(t, api.Int{}, n, api.Int{}, api.OK)
		holdPower(t, api.Int{Mag: []uint64{}}, n, api.Int{}, api.OK)
		holdPower(t, plus(1), n, plus(1), api.OK)
		holdPower(t, less(1), n, of(n%2 == 1, 1), api.OK)
		for _, a := range []api.Int{plus(2), less(2), plus(3), less(ones), plus(0, 1), full(100), power(maxBits - 1)} {
			holdPower(t, a, n, api.Int{}, api.ErrLong)
		}
	}
}

// P15.3: ErrArg, unless the number is right and n is not below 0; ahead of all else.
func TestPowerRefused(t *testing.T) {
	for _, n := range []int{-1, -2, -64, -1 << 32, -1 << 62, math.MinInt + 1, math.MinInt} {
		for _, a := range slices.Concat(rights(), longs(), wrongs()) {
			holdPower(t, a, n, api.Int{}, api.ErrArg)
		}
	}
	for _, a := range wrongs() {
		for _, n := range []int{0, 1, 2, 3, 100, 1 << 40, math.MaxInt} {
			holdPower(t, a, n, api.Int{}, api.ErrArg)
		}
	}
}

// greatest is the greatest n for which a number, above 1, has a power that is not too long.
func greatest(a api.Int) int {
	f, _ := new(big.Float).SetInt(valueOf(a)).Float64()
	n := int(maxBits/math.Log2(f)) + 2
	for {
		if _, e := powerOf(a, n); e == api.OK {
			return n
		}
		n--
	}
}

// P15.3: the greatest power that has room, and the next one.
func TestGreatestPowers(t *testing.T) {
	t.Parallel()
	for _, a := range []api.Int{plus(2), plus(3), plus(4), plus(5), plus(7), plus(10), plus(1 << 32), plus(ones), plus(0, 1), plus(1, 1), power(127), full(5)} {
		n := greatest(a)
		want, _ := powerOf(a, n)
		holdPower(t, a, n, want, api.OK)
		holdPower(t, about(a), n, of(n%2 == 1, want.Mag...), api.OK)
		for _, more := range []int{1, 2, n} {
			holdPower(t, a, n+more, api.Int{}, api.ErrLong)
			holdPower(t, about(a), n+more, api.Int{}, api.ErrLong)
		}
	}
}

// rootOf is the greatest number whose power n is not too long, by steps down from one that is above it.
func rootOf(n int) api.Int {
	top := valueOf(full(api.MaxLimbs))
	root := new(big.Int).Lsh(big.NewInt(1), uint(maxBits/n+1))
	for {
		step := new(big.Int).Exp(root, big.NewInt(int64(n-1)), nil)
		step.Quo(top, step)
		step.Add(step, new(big.Int).Mul(root, big.NewInt(int64(n-1))))
		step.Quo(step, big.NewInt(int64(n)))
		if step.Cmp(root) >= 0 {
			x, _ := rightOf(root)
			return x
		}
		root = step
	}
}

// P15.3: the greatest numbers whose powers have room, and the next ones.
func TestGreatestRoots(t *testing.T) {
	t.Parallel()
	for _, n := range []int{2, 3, 4, 5, 6, 7, 37, 64, 99, 255} {
		a := rootOf(n)
		want, err := powerOf(a, n)
		if err != api.OK || len(want.Mag) != api.MaxLimbs {
			t.Fatalf("%s to the power %d is no edge", short(a), n)
		}
		holdPower(t, a, n, want, api.OK)
		holdPower(t, about(a), n, of(n%2 == 1, want.Mag...), api.OK)
		holdPower(t, next(a), n, api.Int{}, api.ErrLong)
		holdPower(t, about(next(a)), n, api.Int{}, api.ErrLong)
	}
	holdPower(t, full(1365), 3, product(t, full(1365), product(t, full(1365), full(1365))), api.OK)
	holdPower(t, full(1366), 3, api.Int{}, api.ErrLong)
	holdPower(t, power(87381), 3, power(262143), api.OK)
	holdPower(t, power(87382), 3, api.Int{}, api.ErrLong)
}

// calls are all that tell a number, each of two.
var calls = append(slices.Clone(all), way{"Square", func(a, _ api.Int) (api.Int, api.Errno) { return times.Square(a) }},
	way{"Power 0", func(a, _ api.Int) (api.Int, api.Errno) { return times.Power(a, 0) }},
	way{"Power 1", func(a, _ api.Int) (api.Int, api.Errno) { return times.Power(a, 1) }},
	way{"Power 5", func(a, _ api.Int) (api.Int, api.Errno) { return times.Power(a, 5) }})

// spoil overwrites all that a list has, its spare room too.
func spoil(l []uint64) {
	l = l[:cap(l)]
	for i := range l {
		l[i] = 7
	}
}

// R3: numbers are only read, their spare room too; answers are the caller's own.
func TestMemory(t *testing.T) {
	r := rand.New(rand.NewSource(158))
	for i := range 150 {
		a, b := drawn(r, r.Intn(6)), drawn(r, r.Intn(6))
		switch {
		case i%10 == 0:
			b = of(b.Neg, 1)
		case i%25 == 1:
			a, b = drawn(r, 85), drawn(r, 60+r.Intn(26))
		}
		aRoom, bRoom := append(slices.Clone(a.Mag), 11, 12, 13), append(slices.Clone(b.Mag), 21, 22, 23)
		a.Mag, b.Mag = aRoom[:len(a.Mag)], bRoom[:len(b.Mag)]
		aKeep, bKeep := slices.Clone(aRoom), slices.Clone(bRoom)
		for _, c := range calls {
			first, _ := c.call(a, b)
			second, _ := c.call(a, b)
			keep := of(first.Neg, slices.Clone(first.Mag)...)
			spoil(second.Mag)
			if !same(first, keep) {
				t.Errorf("%s of %s, %s: two answers share memory", c.name, short(a), short(b))
			}
			spoil(first.Mag)
			if !slices.Equal(aRoom, aKeep) || !slices.Equal(bRoom, bKeep) {
				t.Fatalf("%s of %s, %s: what was handed in has changed", c.name, short(a), short(b))
			}
			if again, e := c.call(a, b); e != api.OK || !same(again, keep) {
				t.Errorf("%s of %s, %s: %s, then %s", c.name, short(a), short(b), short(keep), short(again))
			}
		}
	}
}

// R3: both numbers may lie in one list, over each other.
func TestOneListTwice(t *testing.T) {
	l := drawn(rand.New(rand.NewSource(159)), 130).Mag
	l[49], l[99] = 1, 9
	keep := slices.Clone(l)
	for _, p := range [][2]api.Int{{plus(l...), plus(l...)}, {plus(l...), less(l[2:]...)}, {less(l[:50]...), plus(l[3:100]...)}, {less(l[:50]...), less(l[:100]...)}} {
		want, err := productOf(p[0], p[1])
		holdAll(t, p[0], p[1], want, err)
	}
	if !slices.Equal(l, keep) {
		t.Error("the list has changed")
	}
}

// R4: calls side by side, of the same numbers, tell what they tell one by one.
func TestSideBySide(t *testing.T) {
	a, b := full(300), about(full(131))
	var group sync.WaitGroup
	for _, c := range calls {
		want, _ := c.call(a, b)
		for range 4 {
			group.Go(func() {
				if x, e := c.call(a, b); e != api.OK || !same(x, want) {
					t.Errorf("%s tells another number", c.name)
				}
			})
		}
	}
	group.Wait()
}
