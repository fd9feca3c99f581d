package fault_test

import (
	"math"
	"math/big"
	"math/rand"
	"slices"
	"testing"

	"rosette/api"
	"rosette/fault"
)

const (
	least    = 0x1p-1074 // the least float above 0
	great    = math.MaxFloat64
	mostSize = 0x1p900
	lost     = 0x1p-1000
)

var (
	minus = math.Copysign(0, -1)
	inf   = math.Inf(1)
	nan   = math.NaN()
)

// same holds bits against bits.
func same(a, b float64) bool { return math.Float64bits(a) == math.Float64bits(b) }

// next is the float above.
func next(x float64) float64 { return math.Nextafter(x, inf) }

// before is the float below.
func before(x float64) float64 { return math.Nextafter(x, -inf) }

// hold tells where a bound, or an error, is another one than is wanted; beside an error the bound must be +0.
func hold(t *testing.T, f float64, e api.Errno, want float64, err api.Errno, call string, args ...any) {
	t.Helper()
	if !same(f, want) || e != err {
		t.Errorf("%s%v = %x, %v; wanted are %x, %v", call, args, f, e, want, err)
	}
}

func holdTurn(t *testing.T, order int, most, want float64, err api.Errno) {
	t.Helper()
	f, e := fault.Turn(order, most)
	hold(t, f, e, want, err, "Turn", order, most)
}

func holdRing(t *testing.T, order int, a, b, want float64, err api.Errno) {
	t.Helper()
	f, e := fault.Ring(order, a, b)
	hold(t, f, e, want, err, "Ring", order, a, b)
}

// edges are the sizes at which a bound goes otherwise than in between, rising.
func edges() []float64 {
	return []float64{
		0, least, 2 * least, 3 * least, 0x1p-1022 - least, 0x1p-1022, 0x1.0000000000001p-1022, 0x1p-1001, lost, 0x1.8p-1000,
		0x1p-960, 0x1p-951, 0x1.8p-950, 0x1p-947, 0x1.fffffffffffffp-901, 0x1p-900, 0x1p-600, 0x1p-174, 0x1p-53, 0x1p-52,
		0.1, 1.0 / 3, 0.5, before(1), 1, next(1), 1.5, 2, 3, 7, 10, 0x1p14, 0x1p23, 12345678.9, 0x1p26, 0x1p53 - 1, 0x1p53, 0x1p53 + 2,
		0x1p172, 0x1p300, 0x1.5555555555555p450, 0x1p512, 0x1p536, 0x1.fffffffffffffp536, 0x1p899, before(mostSize), mostSize,
	}
}

// drawn are sizes of all powers up to 2^900, the same ones at each run.
func drawn(n int, seed int64) []float64 {
	r := rand.New(rand.NewSource(seed))
	var l []float64
	for range n {
		power := r.Intn(1974) - 1074
		if r.Intn(2) == 0 {
			power = r.Intn(80) - 20
		}
		l = append(l, math.Ldexp(1+r.Float64(), power))
	}
	return slices.DeleteFunc(l, func(x float64) bool { return x > mostSize })
}

func rat(x float64) *big.Rat { return new(big.Rat).SetFloat64(x) }

// upOf is the least float that is not below an exact number; plus infinity, if no finite one is.
func upOf(exact *big.Rat) float64 {
	f, _ := exact.Float64()
	if !math.IsInf(f, 1) && rat(f).Cmp(exact) < 0 {
		f = next(f)
	}
	return f
}

// upProduct and upSum round upward once. What is no finite float stays so.
func upProduct(a, b float64) float64 { return upOf(new(big.Rat).Mul(rat(a), rat(b))) }

func upSum(a, b float64) float64 {
	if math.IsInf(a, 1) {
		return a
	}
	return upOf(new(big.Rat).Add(rat(a), rat(b)))
}

// upRoot is the least float whose square is not below 2^order: that of an odd order has all its bits by hand.
func upRoot(order int) float64 {
	r := math.Ldexp(1, order/2)
	if order%2 == 1 {
		r *= 0x1.6a09e667f3bcdp0 // the root of 2 is 1.6a09e667f3bcc908b2fb.. to the base 16
	}
	return r
}

// share is n u 2^order, in exact numbers.
func share(n, order int) float64 {
	exact := new(big.Rat).SetFrac(new(big.Int).Lsh(big.NewInt(int64(n)), uint(order)), new(big.Int).Lsh(big.NewInt(1), 53))
	f, _ := exact.Float64()
	return f
}

// finished is what is told of a last step.
func finished(f float64) (float64, api.Errno) {
	if math.IsInf(f, 1) {
		return 0, api.ErrOver
	}
	return f, api.OK
}

// turnOf is Turn by the words of P9.2.
func turnOf(order int, most float64) (float64, api.Errno) {
	return finished(upSum(upProduct(share(8*order, order), most), lost))
}

// ringOf is Ring by the words of P9.3.
func ringOf(order int, a, b float64) (float64, api.Errno) {
	f := upProduct(share(16*(order+1), order), upRoot(order))
	f = upProduct(f, a)
	f = upProduct(f, b)
	return finished(upSum(f, lost))
}

// The root that the tests go by is the one that is asked for.
func TestUpRoot(t *testing.T) {
	for order := range api.MaxOrder + 1 {
		r, square := upRoot(order), rat(math.Ldexp(1, order))
		below := rat(before(r))
		if new(big.Rat).Mul(rat(r), rat(r)).Cmp(square) < 0 || below.Mul(below, below).Cmp(square) >= 0 {
			t.Errorf("order %d: %x", order, r)
		}
	}
}

// P9.1: 2^-53 at every order; other orders are refused.
func TestRoots(t *testing.T) {
	for order := range api.MaxOrder + 1 {
		f, e := fault.Roots(order)
		hold(t, f, e, 0x1p-53, api.OK, "Roots", order)
	}
	for _, order := range wrongOrders() {
		f, e := fault.Roots(order)
		hold(t, f, e, 0, api.ErrArg, "Roots", order)
	}
}

// P9.2: the chapter's examples, and bounds reckoned by hand.
func TestTurnExamples(t *testing.T) {
	holdTurn(t, 0, 7, lost, api.OK)
	holdTurn(t, 1, 1, next(0x1p-49), api.OK)
	holdTurn(t, 3, 0, lost, api.OK)
	holdTurn(t, 3, minus, lost, api.OK)
	holdTurn(t, 0, minus, lost, api.OK)
	holdTurn(t, 0, mostSize, lost, api.OK)
	holdTurn(t, 2, 1, next(0x1p-47), api.OK)
	holdTurn(t, 3, 5, next(15*0x1p-47), api.OK)
	holdTurn(t, 14, 1, next(7*0x1p-35), api.OK)
	holdTurn(t, 14, mostSize, next(7*0x1p865), api.OK)
	// Far below 2^-1000 the product comes to the least float, and the sum to the float next above.
	holdTurn(t, 1, least, next(lost), api.OK)
	holdTurn(t, 14, least, next(lost), api.OK)
	// Both steps are exact: 2^-49 times 2^-951, and as much put to it.
	holdTurn(t, 1, 0x1p-951, 0x1p-999, api.OK)
	// 3 times 2^-47 times the float below a third: upward the product is 2^-47 all the same, and the sum one float on.
	holdTurn(t, 3, 1.0/3, next(0x1p-47), api.OK)
}

// P9.2: each bound is the one that the promise's words give, to the bit.
func TestTurnToTheBit(t *testing.T) {
	for order := range api.MaxOrder + 1 {
		for _, most := range append(edges(), drawn(300, int64(order)+900)...) {
			want, err := turnOf(order, most)
			holdTurn(t, order, most, want, err)
			if err != api.OK {
				t.Errorf("Turn(%d, %g) is within floats always", order, most)
			}
		}
	}
}

// P9.3: the chapter's examples, and bounds reckoned by hand.
func TestRingExamples(t *testing.T) {
	holdRing(t, 0, 1, 1, next(0x1p-49), api.OK)
	holdRing(t, 10, 0x1p14, 0x1p14, next(11*0x1p-6), api.OK)
	holdRing(t, 10, 0x1p16, 0x1p16, next(11*0x1p-2), api.OK)
	holdRing(t, 2, 0, 5, lost, api.OK)
	holdRing(t, 2, 5, 0, lost, api.OK)
	holdRing(t, 2, minus, 5, lost, api.OK)
	holdRing(t, 2, minus, minus, lost, api.OK)
	holdRing(t, 2, mostSize, mostSize, 0, api.ErrOver)
	holdRing(t, 14, 0, mostSize, lost, api.OK)
	holdRing(t, 14, 1, 1, next(15*0x1p-28), api.OK)
	// 2^-47 times the root of 2, upward; then the float next above.
	holdRing(t, 1, 1, 1, next(0x1.6a09e667f3bcdp-47), api.OK)
	if f, _ := fault.Ring(10, 0x1p14, 0x1p14); f >= 0.25 {
		t.Error("what the order 10 promises is refused", f)
	}
	if f, _ := fault.Ring(10, 0x1p16, 0x1p16); f <= 2.7 {
		t.Error(f)
	}
	// At the least floats it is to be seen which size comes first: 2^-49 times 2^-1074 is the least float upward, which 2^900 makes 2^-174 of.
	holdRing(t, 0, least, mostSize, next(0x1p-174), api.OK)
	holdRing(t, 0, mostSize, least, next(0x1p-223), api.OK)
	holdRing(t, 0, least, least, next(lost), api.OK)
	holdRing(t, 14, least, least, next(lost), api.OK)
	// All steps are exact.
	holdRing(t, 0, 0x1p-951, 1, 0x1p-999, api.OK)
}

// P9.3: the greatest bound that is finite, and the least that is not: at the order 0 the product is 2^-49 a b.
func TestRingOver(t *testing.T) {
	// A product next below the greatest float: 2^-1000 makes the greatest one of it.
	a := math.Ldexp(before(great), -851)
	holdRing(t, 0, a, mostSize, great, api.OK)
	holdRing(t, 0, mostSize, a, great, api.OK)
	// A product that is the greatest float: 2^-1000 makes plus infinity of it.
	holdRing(t, 0, next(a), mostSize, 0, api.ErrOver)
	holdRing(t, 0, mostSize, next(a), 0, api.ErrOver)
	holdRing(t, 0, 0x1p173, mostSize, 0, api.ErrOver)
	for order := range api.MaxOrder + 1 {
		holdRing(t, order, mostSize, mostSize, 0, api.ErrOver)
		greatest, over := greatestTold(order)
		if f, e := fault.Ring(order, greatest, mostSize); e != api.OK || f < 0x1p1023 {
			t.Errorf("order %d: the greatest bound is %x, %v", order, f, e)
		}
		holdRing(t, order, over, mostSize, 0, api.ErrOver)
	}
}

// greatestTold are two sizes next to each other: by P9.3's words the bound with 2^900 is finite of the first alone.
func greatestTold(order int) (float64, float64) {
	lo, hi := math.Float64bits(1), math.Float64bits(mostSize)
	for hi-lo > 1 {
		mid := lo + (hi-lo)/2
		if _, e := ringOf(order, math.Float64frombits(mid), mostSize); e == api.OK {
			lo = mid
		} else {
			hi = mid
		}
	}
	return math.Float64frombits(lo), math.Float64frombits(hi)
}

// P9.3: each bound is the one that the promise's words give, to the bit; and the tests' sizes are such that it is to be seen which size comes first.
func TestRingToTheBit(t *testing.T) {
	turned := 0
	check := func(order int, a, b float64) {
		want, err := ringOf(order, a, b)
		holdRing(t, order, a, b, want, err)
		if f, _ := ringOf(order, b, a); f != want {
			turned++
		}
	}
	for order := range api.MaxOrder + 1 {
		for _, a := range edges() {
			for _, b := range edges() {
				check(order, a, b)
			}
		}
		l := drawn(1000, int64(order)+930)
		for i := range len(l) / 2 {
			check(order, l[2*i], l[2*i+1])
		}
	}
	if turned < 100 {
		t.Error("too few bounds hang on the order of the sizes:", turned)
	}
}

func wrongOrders() []int {
	return []int{-1, -2, -14, -64, api.MaxOrder + 1, 16, 63, 64, 1 << 32, math.MinInt, math.MaxInt}
}

// noSizes are floats that are no sizes.
func noSizes() []float64 {
	return []float64{nan, math.Float64frombits(0xfff8000000000123), inf, -inf, -least, -1, -mostSize, next(mostSize) * -1, -great}
}

// overSizes are sizes above 2^900.
func overSizes() []float64 {
	return []float64{next(mostSize), 0x1p901, 0x1p1023, great}
}

// P9.2, P9.3: what is refused, alone and several at once: the orders first, then what is no size, then what is above 2^900.
func TestRefused(t *testing.T) {
	all := slices.Concat([]float64{0, minus, least, 1, mostSize}, noSizes(), overSizes())
	right, none := 5, 5+len(noSizes())
	errorOf := func(places ...int) api.Errno {
		switch {
		case slices.ContainsFunc(places, func(i int) bool { return i >= right && i < none }):
			return api.ErrNumber
		case slices.Max(places) >= none:
			return api.ErrOver
		}
		return api.OK
	}
	for i, a := range all {
		for _, order := range wrongOrders() {
			holdTurn(t, order, a, 0, api.ErrArg)
		}
		if err := errorOf(i); err != api.OK {
			for _, order := range []int{0, 1, 3, api.MaxOrder} {
				holdTurn(t, order, a, 0, err)
			}
		}
		for j, b := range all {
			for _, order := range wrongOrders() {
				holdRing(t, order, a, b, 0, api.ErrArg)
			}
			if err := errorOf(i, j); err != api.OK {
				for _, order := range []int{0, 2, api.MaxOrder} {
					holdRing(t, order, a, b, 0, err)
				}
			}
		}
	}
}

// P9.2, P9.3: what is refused, as the chapter's examples have it, and both sides of each edge.
func TestRefusedExamples(t *testing.T) {
	holdTurn(t, 3, -1, 0, api.ErrNumber)
	holdTurn(t, 3, nan, 0, api.ErrNumber)
	holdTurn(t, 3, 0x1p901, 0, api.ErrOver)
	holdTurn(t, -1, nan, 0, api.ErrArg)
	holdTurn(t, 15, great, 0, api.ErrArg)
	holdTurn(t, 0, inf, 0, api.ErrNumber)
	holdTurn(t, 0, next(mostSize), 0, api.ErrOver)
	holdTurn(t, 0, great, 0, api.ErrOver)
	holdRing(t, 2, next(mostSize), nan, 0, api.ErrNumber)
	holdRing(t, 2, nan, next(mostSize), 0, api.ErrNumber)
	holdRing(t, 2, great, -least, 0, api.ErrNumber)
	holdRing(t, 2, 0, next(mostSize), 0, api.ErrOver)
	holdRing(t, 2, next(mostSize), 0, 0, api.ErrOver)
	holdRing(t, 15, nan, great, 0, api.ErrArg)
	holdRing(t, -1, great, nan, 0, api.ErrArg)
}
