package angle_test

import (
	"math"
	"math/big"
	"math/rand"
	"slices"
	"sync"
	"testing"

	"rosette/angle"
	"rosette/api"
	"rosette/dyad"
)

const (
	turn    = 1 << api.MaxOrder
	quarter = turn / 4
	// fine is how many bits the library's roots have behind the point; they are less than 2^(blur - fine) off.
	fine = 2400
	blur = 100
)

// root is a root of one of the greatest order, its parts times 2^fine.
type root struct{ re, im *big.Int }

func scaled(n int64) *big.Int { return new(big.Int).Lsh(big.NewInt(n), fine) }

func times(a, b *big.Int) *big.Int { p := new(big.Int).Mul(a, b); return p.Rsh(p, fine) }

// arctan is that of 1 over n.
func arctan(n int64) *big.Int {
	sum, power := new(big.Int), new(big.Int).Quo(scaled(1), big.NewInt(n))
	for k := int64(1); power.Sign() != 0; k += 2 {
		term := new(big.Int).Quo(power, big.NewInt(k))
		if k%4 == 3 {
			term.Neg(term)
		}
		sum.Add(sum, term)
		power.Quo(power, big.NewInt(n*n))
	}
	return sum
}

// first is the root at the step 1, by the series of cosines and sines.
func first() root {
	pi := new(big.Int).Mul(arctan(5), big.NewInt(16))
	pi.Sub(pi, new(big.Int).Mul(arctan(239), big.NewInt(4)))
	x := pi.Rsh(pi, api.MaxOrder-1)
	sums := [2]*big.Int{new(big.Int), new(big.Int)}
	term := scaled(1)
	for k := int64(0); term.Sign() != 0; k++ {
		part := sums[k%2]
		if k%4 < 2 {
			part.Add(part, term)
		} else {
			part.Sub(part, term)
		}
		term = times(term, x)
		term.Quo(term, big.NewInt(k+1))
	}
	return root{sums[0], sums[1]}
}

// roots are all roots of the greatest order, each one made of that before it: so they lean on none of the ways of the package.
var roots = sync.OnceValue(func() []root {
	w := first()
	l := []root{{scaled(1), new(big.Int)}}
	for len(l) <= turn {
		z := l[len(l)-1]
		re := times(z.re, w.re)
		im := times(z.re, w.im)
		l = append(l, root{re.Sub(re, times(z.im, w.im)), im.Add(im, times(z.im, w.re))})
	}
	return l
})

// The roots by which all is tried come round to 1, and are quarters exactly where they should be, as nearly as it is said of them.
func TestRoots(t *testing.T) {
	limit := new(big.Int).Lsh(big.NewInt(1), blur/2)
	for i, want := range [][2]int64{{1, 0}, {0, 1}, {-1, 0}, {0, -1}, {1, 0}} {
		z := roots()[i*quarter]
		re, im := new(big.Int).Sub(z.re, scaled(want[0])), new(big.Int).Sub(z.im, scaled(want[1]))
		if re.CmpAbs(limit) > 0 || im.CmpAbs(limit) > 0 {
			t.Errorf("quarter %d: %v, %v off", i, re, im)
		}
	}
}

// placeOf is the step of the greatest order at the same angle.
func placeOf(order, step int) int {
	n := big.NewInt(1 << order)
	return int(n.Mod(big.NewInt(int64(step)), n).Int64()) << (api.MaxOrder - order)
}

// exactAt is the cosine at a quarter.
func exactAt(place int) int64 { return []int64{1, 0, -1, 0}[place/quarter&3] }

// gapAt is the gap that x should have, counted in 2^-bits; at quarters it is what is told for them.
func gapAt(t *testing.T, place int, x *big.Int, exact int64, bits int) (lo, hi *big.Int) {
	t.Helper()
	if place%quarter == 0 {
		n := new(big.Int).Lsh(big.NewInt(exact), uint(bits))
		return n, n
	}
	off := new(big.Int).Lsh(big.NewInt(1), blur)
	lo, hi = new(big.Int).Sub(x, off), new(big.Int).Add(x, off)
	if lo.Rsh(lo, uint(fine-bits)).Cmp(hi.Rsh(hi, uint(fine-bits))) != 0 {
		t.Fatalf("the roots are too coarse at %d for %d bits", place, bits)
	}
	return lo, hi.Add(hi, big.NewInt(1))
}

// countOf is how many 2^-bits a dyad is, which must be right.
func countOf(t *testing.T, d api.Dyad, bits int) *big.Int {
	t.Helper()
	n := new(big.Int)
	for _, x := range slices.Backward(d.Mag) {
		n.Or(n.Lsh(n, 64), new(big.Int).SetUint64(x))
	}
	if d.Neg {
		n.Neg(n)
	}
	if !dyad.Right(d) || len(d.Mag) > 0 && d.Exp < -bits {
		t.Fatalf("%v is not right, or no multiple of 2^-%d", d, bits)
	}
	if len(d.Mag) == 0 {
		return n
	}
	return n.Lsh(n, uint(d.Exp+bits))
}

type part struct {
	name string
	call func(order, step, bits int) (api.Gap, api.Errno)
}

var parts = []part{{"Cos", angle.Cos}, {"Sin", angle.Sin}}

// told is the gap that a call tells, which must refuse nothing.
func told(t *testing.T, p part, order, step, bits int) api.Gap {
	t.Helper()
	g, e := p.call(order, step, bits)
	if e != api.OK {
		t.Fatalf("%s(%d, %d, %d): %v", p.name, order, step, bits, e)
	}
	return g
}

// holdGaps holds cosine and sine against those of the library (P4.1).
func holdGaps(t *testing.T, order, step, bits int) {
	t.Helper()
	place := placeOf(order, step)
	z := roots()[place]
	for i, x := range []*big.Int{z.re, z.im} {
		g := told(t, parts[i], order, step, bits)
		lo, hi := gapAt(t, place, x, exactAt(place+(4-i)*quarter), bits)
		if countOf(t, g.Lo, bits).Cmp(lo) != 0 || countOf(t, g.Hi, bits).Cmp(hi) != 0 {
			t.Fatalf("%s(%d, %d, %d) = %v, but should be [%v, %v] over 2^%d", parts[i].name, order, step, bits, g, lo, hi, bits)
		}
	}
}

func of(n int64, exp int) api.Dyad {
	d, _ := dyad.Scale(dyad.Int(n), exp)
	return d
}

func same(a, b api.Dyad) bool {
	return a.Neg == b.Neg && slices.Equal(a.Mag, b.Mag) && a.Exp == b.Exp
}

func sameGap(a, b api.Gap) bool { return same(a.Lo, b.Lo) && same(a.Hi, b.Hi) }

// P4.1: what the chapter's examples say, and all eighths of a turn, told without the library.
func TestGaps(t *testing.T) {
	for _, x := range []struct {
		p                 part
		order, step, bits int
		lo, hi            api.Dyad
	}{
		{parts[0], 3, 1, 0, of(0, 0), of(1, 0)}, {parts[0], 3, 1, 4, of(11, -4), of(12, -4)}, {parts[1], 3, -1, 4, of(-12, -4), of(-11, -4)},
		{parts[0], 2, 1, 9, of(0, 0), of(0, 0)}, {parts[0], 1, 1, 0, of(-1, 0), of(-1, 0)}, {parts[0], 0, 5, 3, of(1, 0), of(1, 0)}, {parts[1], 0, 5, 3, of(0, 0), of(0, 0)},
		{parts[0], 0, 0, 4, of(1, 0), of(1, 0)}, {parts[1], 2, 1, 0, of(1, 0), of(1, 0)}, {parts[1], 1, 1, 2048, of(0, 0), of(0, 0)}, {parts[1], 2, 3, 2048, of(-1, 0), of(-1, 0)},
		{parts[0], 3, 3, 0, of(-1, 0), of(0, 0)}, {parts[0], 3, 3, 4, of(-12, -4), of(-11, -4)}, {parts[1], 3, 5, 1, of(-2, -1), of(-1, -1)}, {parts[1], 3, 3, 2, of(2, -2), of(3, -2)},
		{parts[0], 4, 1, 3, of(7, -3), of(8, -3)}, {parts[1], 4, 1, 3, of(3, -3), of(4, -3)}, {parts[0], 14, 1, 23, of(1<<23-1, -23), of(1, 0)}, {parts[0], 14, 1, 24, of(1<<24-2, -24), of(1<<24-1, -24)}, {parts[1], 14, 1, 11, of(0, 0), of(1, -11)}, {parts[1], 14, 1, 12, of(1, -12), of(2, -12)}, {parts[1], 14, -1, 12, of(-2, -12), of(-1, -12)},
	} {
		if g, e := x.p.call(x.order, x.step, x.bits); e != api.OK || !sameGap(g, api.Gap{Lo: x.lo, Hi: x.hi}) {
			t.Errorf("%s(%d, %d, %d) = %v, %v", x.p.name, x.order, x.step, x.bits, g, e)
		}
	}
	for eighth := range 8 {
		cos, sin := told(t, parts[0], 3, eighth, 0), told(t, parts[1], 3, eighth, 0)
		want := [][4]int64{{1, 1, 0, 0}, {0, 1, 0, 1}, {0, 0, 1, 1}, {-1, 0, 0, 1}, {-1, -1, 0, 0}, {-1, 0, -1, 0}, {0, 0, -1, -1}, {0, 1, -1, 0}}[eighth]
		if !sameGap(cos, api.Gap{Lo: of(want[0], 0), Hi: of(want[1], 0)}) || !sameGap(sin, api.Gap{Lo: of(want[2], 0), Hi: of(want[3], 0)}) {
			t.Errorf("eighth %d: %v, %v", eighth, cos, sin)
		}
	}
}

// P4.1: every angle, at few bits and at some number of them.
func TestAllAngles(t *testing.T) {
	for place := range turn {
		holdGaps(t, api.MaxOrder, place, place%3)
		holdGaps(t, api.MaxOrder, place, place*37%300)
	}
	for order := range api.MaxOrder {
		n := 1 << order
		for step := 0; step < n; step += 1 + n/64 {
			holdGaps(t, order, step, 0)
			holdGaps(t, order, step, 1+(step*37+order)%2047)
			holdGaps(t, order, step, api.MaxBits)
		}
	}
}

// P4.1: every number of bits.
func TestAllBits(t *testing.T) {
	for bits := range api.MaxBits + 1 {
		holdGaps(t, 3, 1, bits)
		holdGaps(t, 5, 11, bits)
		holdGaps(t, 14, bits*bits, bits)
	}
	for _, place := range []int{1, -1, quarter - 1, quarter + 1, 2*quarter - 1, 2*quarter + 1, 3*quarter - 1, 3*quarter + 1, 2047, 2048, 2049, 5461, 10923} {
		for _, bits := range []int{0, 1, 10, 11, 12, 23, 24, 31, 32, 33, 63, 64, 65, 1000, 2016, 2047, 2048} {
			holdGaps(t, api.MaxOrder, place, bits)
		}
	}
}

// P4.1: the bits behind the last one are the same for long, all noughts or all ones: nearer to multiples no angle comes.
func TestHard(t *testing.T) {
	found := 0
	for place := 1; place < quarter; place++ {
		x := roots()[place].re
		run := 0
		for bits := api.MaxBits + 40; bits >= 0; bits-- {
			next := fine - bits - 1
			if x.Bit(next) != x.Bit(next-1) {
				run = 0
			}
			run++
			if run >= 15 && bits <= api.MaxBits {
				found++
				holdGaps(t, api.MaxOrder, place, bits)
			}
		}
	}
	if found < 400 {
		t.Errorf("there are more than %d of them", found)
	}
}

// stepsOf are steps of all kinds, of an order: within a turn, below 0, many turns on, and the ends of all ints.
func stepsOf(order int) []int {
	n := 1 << order
	l := []int{0, 1, -1, 2, -2, n / 8, n / 4, -n / 4, n / 2, -n / 2, 3 * n / 4, n - 1, n, n + 1, -n, -n - 1, 1 - n, 5*n + 3, -7*n - 5, 1000003*n + n/8, math.MaxInt, math.MinInt, math.MaxInt - 1, math.MinInt + 1, math.MaxInt - n, math.MinInt + n, math.MinInt + n/4, math.MaxInt - n/8, math.MaxInt32, math.MinInt32, math.MaxInt / 3, math.MinInt / 3}
	r := rand.New(rand.NewSource(int64(41 + order)))
	for range 20 {
		l = append(l, int(r.Uint64()))
	}
	return l
}

// P4.1, P4.2: steps of any int.
func TestSteps(t *testing.T) {
	for order := range api.MaxOrder + 1 {
		for _, step := range stepsOf(order) {
			holdGaps(t, order, step, 20)
			holdGaps(t, order, step, 77)
			holdNear(t, order, step)
		}
	}
}

// floatAt is the float nearest to x, which must be clear of ties.
func floatAt(t *testing.T, x *big.Int) float64 {
	t.Helper()
	var l [2]float64
	for i, off := range []int64{-1, 1} {
		n := new(big.Int).Lsh(big.NewInt(off), blur)
		f := new(big.Float).SetInt(n.Add(n, x))
		l[i], _ = f.SetMantExp(f, -fine).Float64()
	}
	if l[0] != l[1] {
		t.Fatalf("the roots are too coarse for %g, %g", l[0], l[1])
	}
	return l[0]
}

func sameBits(x, y float64) bool { return math.Float64bits(x) == math.Float64bits(y) }

func sameNumber(w, z complex128) bool {
	return sameBits(real(w), real(z)) && sameBits(imag(w), imag(z))
}

// holdNear holds the nearest floats against those of the library (P4.2); noughts must be +0.
func holdNear(t *testing.T, order, step int) {
	t.Helper()
	place := placeOf(order, step)
	want := complex(float64(exactAt(place)), float64(exactAt(place+3*quarter)))
	if place%quarter != 0 {
		want = complex(floatAt(t, roots()[place].re), floatAt(t, roots()[place].im))
	}
	if z, e := angle.Near(order, step); !sameNumber(z, want) || e != api.OK {
		t.Fatalf("Near(%d, %d) = %v, %v, but should be %v", order, step, z, e, want)
	}
}

// P4.2: what the chapter's examples say, and all eighths of a turn, told without the library.
func TestNear(t *testing.T) {
	h := 6369051672525773 * 0x1p-53
	for _, x := range []struct {
		order, step int
		want        complex128
	}{
		{3, 0, complex(1, 0)}, {3, 1, complex(h, h)}, {3, 2, complex(0, 1)}, {3, 3, complex(-h, h)}, {3, 4, complex(-1, 0)}, {3, 5, complex(-h, -h)}, {3, 6, complex(0, -1)}, {3, 7, complex(h, -h)},
		{2, 1, complex(0, 1)}, {2, 2, complex(-1, 0)}, {2, -1, complex(0, -1)}, {0, 0, complex(1, 0)}, {0, 7, complex(1, 0)}, {0, -7, complex(1, 0)}, {1, 1, complex(-1, 0)}, {1, -1, complex(-1, 0)}, {1, 2, complex(1, 0)},
		{14, math.MinInt, complex(1, 0)}, {14, math.MinInt + quarter, complex(0, 1)}, {3, math.MaxInt, complex(h, -h)}, {0, math.MaxInt, complex(1, 0)},
	} {
		if z, e := angle.Near(x.order, x.step); !sameNumber(z, x.want) || e != api.OK {
			t.Errorf("Near(%d, %d) = %v, %v", x.order, x.step, z, e)
		}
	}
}

// P4.2: every angle of every order.
func TestNearAll(t *testing.T) {
	for order := range api.MaxOrder + 1 {
		for step := range 1 << order {
			holdNear(t, order, step)
		}
	}
}

// about is a gap turned about.
func about(t *testing.T, g api.Gap) api.Gap {
	t.Helper()
	lo, e := dyad.Neg(g.Hi)
	hi, f := dyad.Neg(g.Lo)
	if e != api.OK || f != api.OK {
		t.Fatal(e, f)
	}
	return api.Gap{Lo: lo, Hi: hi}
}

// holdTurns holds an angle against one a quarter further on, and the one turned back: gaps and floats (P4.3).
func holdTurns(t *testing.T, order, step, bits int) {
	t.Helper()
	further := step + 1<<order/4
	cos, sin := told(t, parts[0], order, step, bits), told(t, parts[1], order, step, bits)
	if order >= 2 {
		if !sameGap(told(t, parts[0], order, further, bits), about(t, sin)) || !sameGap(told(t, parts[1], order, further, bits), cos) {
			t.Fatalf("a quarter further on than %d of the order %d, %d bits", step, order, bits)
		}
	}
	if !sameGap(told(t, parts[0], order, -step, bits), cos) || !sameGap(told(t, parts[1], order, -step, bits), about(t, sin)) {
		t.Fatalf("%d of the order %d turned back, %d bits", step, order, bits)
	}
	z, _ := angle.Near(order, step)
	if w, _ := angle.Near(order, further); order >= 2 && w != complex(-imag(z), real(z)) {
		t.Fatalf("a quarter further on than %d of the order %d: %v, %v", step, order, z, w)
	}
	if w, _ := angle.Near(order, -step); w != complex(real(z), -imag(z)) {
		t.Fatalf("%d of the order %d turned back: %v, %v", step, order, z, w)
	}
}

// holdOrders holds an angle against the same one of each greater order: gaps, and floats to the bit (P4.3).
func holdOrders(t *testing.T, order, step, bits int) {
	t.Helper()
	z, _ := angle.Near(order, step)
	for greater := order; greater <= api.MaxOrder; greater++ {
		far := step << (greater - order)
		if w, e := angle.Near(greater, far); !sameNumber(w, z) || e != api.OK {
			t.Fatalf("%d of the order %d as one of the order %d: %v, %v", step, order, greater, w, z)
		}
		for _, p := range parts {
			if !sameGap(told(t, p, greater, far, bits), told(t, p, order, step, bits)) {
				t.Fatalf("%s: %d of the order %d as one of the order %d, %d bits", p.name, step, order, greater, bits)
			}
		}
	}
}

// lessOf tells how a stands to b.
func lessOf(t *testing.T, a, b api.Dyad) int {
	t.Helper()
	n, e := dyad.Cmp(a, b)
	if e != api.OK {
		t.Fatal(e)
	}
	return n
}

// holdNested holds gaps of more and more bits against each other (P4.3).
func holdNested(t *testing.T, order, step int) {
	t.Helper()
	for _, p := range parts {
		outer := told(t, p, order, step, 0)
		for _, bits := range []int{1, 2, 3, 12, 40, 64, 65, 200, 201, 1024, 2047, 2048} {
			g := told(t, p, order, step, bits)
			if lessOf(t, outer.Lo, g.Lo) > 0 || lessOf(t, g.Hi, outer.Hi) > 0 || lessOf(t, g.Lo, g.Hi) > 0 {
				t.Fatalf("%s(%d, %d) of %d bits does not lie in that of fewer", p.name, order, step, bits)
			}
			outer = g
		}
	}
}

// squares is the gap of the squares of a gap's numbers, counted in 2^(-2 bits).
func squares(t *testing.T, g api.Gap, bits int) (lo, hi *big.Int) {
	t.Helper()
	l := []*big.Int{countOf(t, g.Lo, bits), countOf(t, g.Hi, bits)}
	if l[0].Sign() < 0 {
		l[0], l[1] = l[1].Neg(l[1]), l[0].Neg(l[0])
	}
	// No gap has numbers on both sides of 0, as 0 is a multiple of whatever is.
	if l[0].Sign() < 0 || l[1].Cmp(l[0]) < 0 {
		t.Fatal(g)
	}
	return l[0].Mul(l[0], l[0]), l[1].Mul(l[1], l[1])
}

// holdSquares holds twice the square of a cosine, less 1, against the cosine of twice the angle, and both squares' sum against 1 (P4.3).
func holdSquares(t *testing.T, order, step, bits int) {
	t.Helper()
	one := new(big.Int).Lsh(big.NewInt(1), uint(2*bits))
	cosLo, cosHi := squares(t, told(t, parts[0], order, step, bits), bits)
	sinLo, sinHi := squares(t, told(t, parts[1], order, step, bits), bits)
	if new(big.Int).Add(cosLo, sinLo).Cmp(one) > 0 || new(big.Int).Add(cosHi, sinHi).Cmp(one) < 0 {
		t.Fatalf("squares at %d of the order %d, %d bits", step, order, bits)
	}
	double := told(t, parts[0], order, 2*step, bits)
	lo, hi := countOf(t, double.Lo, 2*bits), countOf(t, double.Hi, 2*bits)
	for _, x := range []*big.Int{cosLo, cosHi} {
		x.Lsh(x, 1).Sub(x, one)
	}
	if cosLo.Cmp(hi) > 0 || cosHi.Cmp(lo) < 0 {
		t.Fatalf("twice the angle at %d of the order %d, %d bits", step, order, bits)
	}
}

// P4.3.
func TestFollows(t *testing.T) {
	for order := range api.MaxOrder + 1 {
		n := 1 << order
		for step := -n / 16; step <= n; step += 1 + n/16 {
			for _, bits := range []int{0, 1, 9, 64, 150} {
				holdTurns(t, order, step, bits)
				holdOrders(t, order, step, bits)
				holdSquares(t, order, step, bits)
			}
			holdSquares(t, order, step, api.MaxBits)
			holdNested(t, order, step)
		}
	}
}

// P4.1, P4.2: what may not be asked for is refused, and nothing is told beside it.
func TestWrong(t *testing.T) {
	orders := []int{-1, 15, 16, 63, 64, 65, -64, math.MaxInt, math.MinInt}
	bits := []int{-1, 2049, 2050, -2048, math.MaxInt, math.MinInt, math.MaxInt - 10}
	steps := []int{0, 1, -1, 7, math.MaxInt, math.MinInt}
	wrong := func(order, step, bits int) {
		t.Helper()
		for _, p := range parts {
			if g, e := p.call(order, step, bits); e != api.ErrArg || !sameGap(g, api.Gap{}) {
				t.Errorf("%s(%d, %d, %d) = %v, %v", p.name, order, step, bits, g, e)
			}
		}
	}
	for _, step := range steps {
		for _, order := range orders {
			for _, n := range append([]int{0, 4, 2048}, bits...) {
				wrong(order, step, n)
			}
			if z, e := angle.Near(order, step); e != api.ErrArg || !sameNumber(z, 0) {
				t.Errorf("Near(%d, %d) = %v, %v", order, step, z, e)
			}
		}
		for _, n := range bits {
			for _, order := range []int{0, 1, 2, 3, 14} {
				wrong(order, step, n)
			}
		}
	}
}

// spoil overwrites all that a list has, its spare room too.
func spoil(l []uint64) {
	l = l[:cap(l)]
	for i := range l {
		l[i] = 99
	}
}

// R3: both ends of a gap are memory of their own, and no gap shares any with one told before.
func TestMemory(t *testing.T) {
	for _, p := range parts {
		for _, order := range []int{0, 1, 2, 3, 14} {
			for step := range min(8, 1<<order) {
				for _, bits := range []int{0, 3, 64, 2048} {
					want := told(t, p, order, step, bits)
					keep := [2][]uint64{slices.Clone(want.Lo.Mag), slices.Clone(want.Hi.Mag)}
					g := told(t, p, order, step, bits)
					spoil(g.Lo.Mag)
					if !slices.Equal(g.Hi.Mag, keep[1]) {
						t.Fatalf("%s(%d, %d, %d): both ends share memory", p.name, order, step, bits)
					}
					spoil(g.Hi.Mag)
					again := told(t, p, order, step, bits)
					for _, x := range []api.Gap{want, again} {
						if !slices.Equal(x.Lo.Mag, keep[0]) || !slices.Equal(x.Hi.Mag, keep[1]) {
							t.Fatalf("%s(%d, %d, %d) shares memory with another answer", p.name, order, step, bits)
						}
					}
				}
			}
		}
	}
}

// R4: calls side by side tell what they tell one by one.
func TestSideBySide(t *testing.T) {
	want, _ := angle.Near(14, 1234)
	var calls sync.WaitGroup
	var l [8]complex128
	for i := range l {
		calls.Go(func() { l[i], _ = angle.Near(14, 1234) })
	}
	calls.Wait()
	for _, z := range l {
		if !sameNumber(z, want) {
			t.Error(z, want)
		}
	}
}
