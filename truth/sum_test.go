package truth_test

import (
	"fmt"
	"math"
	"math/big"
	"math/rand"
	"slices"
	"sync"
	"testing"

	"rosette/angle"
	"rosette/api"
	"rosette/dyad"
	"rosette/truth"
	"rosette/turn"
)

const (
	most  = api.MaxOrder
	least = math.SmallestNonzeroFloat64
	great = math.MaxFloat64
	// limit is the greatest size that a number of a row may have.
	limit = 0x1p256
	// floatLast is the power of two of which every float is a multiple.
	floatLast = -1074
)

var (
	nan   = math.NaN()
	inf   = math.Inf(1)
	minus = math.Copysign(0, -1)
)

// of is n times 2^exp.
func of(n int64, exp int) api.Dyad {
	d, _ := dyad.Scale(dyad.Int(n), exp)
	return d
}

// gap is that from lo to hi, counted in 2^exp.
func gap(lo, hi int64, exp int) api.Gap { return api.Gap{Lo: of(lo, exp), Hi: of(hi, exp)} }

func same(a, b api.Dyad) bool {
	return a.Neg == b.Neg && slices.Equal(a.Mag, b.Mag) && a.Exp == b.Exp
}

func sameGap(a, b api.Gap) bool { return same(a.Lo, b.Lo) && same(a.Hi, b.Hi) }

func sameBox(a, b api.Box) bool { return sameGap(a.Re, b.Re) && sameGap(a.Im, b.Im) }

// ends are all four ends of a box.
func ends(b api.Box) []api.Dyad { return []api.Dyad{b.Re.Lo, b.Re.Hi, b.Im.Lo, b.Im.Hi} }

// told is the box that Sum tells, which must refuse nothing, and whose gaps must be right.
func told(t *testing.T, x []complex128, place, bits int) api.Box {
	t.Helper()
	b, e := truth.Sum(x, place, bits)
	if e != api.OK {
		t.Fatalf("Sum of %d numbers at %d, %d bits: %v", len(x), place, bits, e)
	}
	for _, g := range []api.Gap{b.Re, b.Im} {
		if side, e := dyad.Cmp(g.Lo, g.Hi); e != api.OK || side > 0 {
			t.Fatalf("Sum of %d numbers at %d, %d bits: a gap that is not right, %v", len(x), place, bits, g)
		}
	}
	return b
}

// at is the row of the order that has z at m, and noughts elsewhere.
func at(order, m int, z complex128) []complex128 {
	x := make([]complex128, 1<<order)
	x[m] = z
	return x
}

// P8.1: what the chapter's examples say.
func TestExamples(t *testing.T) {
	eighth := gap(22, 23, -5)
	for i, c := range []struct {
		x           []complex128
		place, bits int
		want        api.Box
	}{
		{[]complex128{3 - 1i}, 0, 8, api.Box{Re: gap(3, 3, 0), Im: gap(-1, -1, 0)}},
		{[]complex128{1, 1}, 1, 10, api.Box{}},
		{[]complex128{1, 1}, 0, 10, api.Box{Re: gap(2, 2, 0)}},
		{[]complex128{0, 1, 0, 0}, 1, 5, api.Box{Im: gap(1, 1, 0)}},
		{at(3, 1, 1), 1, 4, api.Box{Re: eighth, Im: eighth}},
	} {
		if b := told(t, c.x, c.place, c.bits); !sameBox(b, c.want) {
			t.Errorf("example %d: %v", i, b)
		}
	}
}

// P8.1: rows of one number and of two, and rows of four, whose roots are quarters, have gaps whose ends are the true number.
func TestQuarters(t *testing.T) {
	for _, bits := range []int{0, 7, 512} {
		for i, c := range []struct {
			x     []complex128
			place int
			want  [2]float64
		}{
			{[]complex128{complex(0.1, -least)}, 0, [2]float64{0.1, -least}},
			{[]complex128{complex(-limit, 0)}, 0, [2]float64{-limit, 0}},
			{[]complex128{complex(minus, limit)}, 0, [2]float64{0, limit}},
			{[]complex128{5 + 2i, -1 + 4i}, 0, [2]float64{4, 6}},
			{[]complex128{5 + 2i, -1 + 4i}, 1, [2]float64{6, -2}},
			{[]complex128{1, 2, 3, 4}, 0, [2]float64{10, 0}},
			{[]complex128{1, 2, 3, 4}, 1, [2]float64{-2, -2}},
			{[]complex128{1, 2, 3, 4}, 2, [2]float64{-2, 0}},
			{[]complex128{1, 2, 3, 4}, 3, [2]float64{-2, 2}},
			{[]complex128{1i, 2i, -3i, 4i}, 1, [2]float64{2, 4}},
			{[]complex128{1i, 2i, -3i, 4i}, 3, [2]float64{-2, 4}},
			{at(14, 4096, complex(3, 5)), 1, [2]float64{-5, 3}},
			{at(14, 0, complex(-3, 5)), 16383, [2]float64{-3, 5}},
		} {
			re, _ := dyad.Of(c.want[0])
			im, _ := dyad.Of(c.want[1])
			if b := told(t, c.x, c.place, bits); !sameBox(b, api.Box{Re: api.Gap{Lo: re, Hi: re}, Im: api.Gap{Lo: im, Hi: im}}) {
				t.Errorf("row %d at %d, %d bits: %v", i, c.place, bits, b)
			}
		}
	}
}

// P8.1: one number times each eighth of a turn: where a factor is below 0 the ends change about, in sums and in differences.
func TestEnds(t *testing.T) {
	// At an eighth of a turn both parts are from 22 to 23 over 32; e is 1 for 1 and 1i, 2 for a number with both parts.
	up, down := gap(22, 23, -5), gap(-23, -22, -5)
	// Both parts at once are from 45 to 46 over 64 each: their sum is from 90 to 92, their difference from -1 to 1.
	both, about, none := gap(90, 92, -6), gap(-92, -90, -6), gap(-1, 1, -6)
	for _, c := range []struct {
		z    complex128
		m    int
		want api.Box
	}{
		{1, 1, api.Box{Re: up, Im: up}}, {-1, 1, api.Box{Re: down, Im: down}}, {1i, 1, api.Box{Re: down, Im: up}}, {-1i, 1, api.Box{Re: up, Im: down}},
		{1, 3, api.Box{Re: down, Im: up}}, {-1, 3, api.Box{Re: up, Im: down}}, {1i, 3, api.Box{Re: down, Im: down}}, {-1i, 3, api.Box{Re: up, Im: up}},
		{1, 5, api.Box{Re: down, Im: down}}, {-1, 5, api.Box{Re: up, Im: up}}, {1i, 5, api.Box{Re: up, Im: down}}, {-1i, 5, api.Box{Re: down, Im: up}},
		{1, 7, api.Box{Re: up, Im: down}}, {-1, 7, api.Box{Re: down, Im: up}}, {1i, 7, api.Box{Re: up, Im: up}}, {-1i, 7, api.Box{Re: down, Im: down}},
		{1 + 1i, 1, api.Box{Re: none, Im: both}}, {1 - 1i, 1, api.Box{Re: both, Im: none}}, {-1 + 1i, 1, api.Box{Re: about, Im: none}}, {-1 - 1i, 1, api.Box{Re: none, Im: about}},
		{1 + 1i, 5, api.Box{Re: none, Im: about}}, {1 - 1i, 7, api.Box{Re: none, Im: about}}, {1 + 1i, 3, api.Box{Re: about, Im: none}},
	} {
		if b := told(t, at(3, c.m, c.z), 1, 4); !sameBox(b, c.want) {
			t.Errorf("%v at %d: %v", c.z, c.m, b)
		}
	}
	// Gaps of one angle that stand against each other do not go away: both numbers are within.
	x := at(4, 1, 1)
	x[9] = -1
	if b := told(t, x, 2, 4); !sameBox(b, api.Box{Re: none, Im: none}) {
		t.Errorf("1 and -1 at one angle: %v", b)
	}
}

// P8.1: e is the least such number from 0 on: the finest bit tells, and both parts' sizes count, of all numbers.
func TestLeastPower(t *testing.T) {
	for i, c := range []struct {
		at1, at0 complex128
		e        int
	}{
		{least, 0, 0}, {0.25, 0, 0}, {0.25, 0.25, 0}, {0.25, complex(0, -0.25), 0}, {0.5, 0, 0}, {-0.5, 0, 0},
		{0.5, least, 1}, {0.5, complex(0, -least), 1}, {complex(0.5, least), 0, 1}, {complex(math.Nextafter(0.5, 1), 0), 0, 1}, {complex(math.Nextafter(0.5, 0), 0), 0, 0}, {complex(math.Nextafter(0.5, 0), 0), complex(0, 0x1p-54), 0}, {complex(math.Nextafter(0.5, 0), 0), complex(least, -0x1p-54), 1},
		{1, 0, 1}, {complex(-0.5, 0.5), 0, 1}, {1, least, 2}, {1, 1, 2}, {1i, -1, 2}, {1, complex(1, 1), 3}, {complex(1, 1), complex(-1, -1), 3}, {complex(1, 1), complex(-1, -1.5), 4},
		{0x1p100, 0, 101}, {0x1p100, complex(0, least), 102}, {limit, 0, 257}, {-limit, least, 258}, {limit, -limit, 258}, {limit, complex(limit/2, -limit/2), 258}, {complex(limit/2, limit/2), complex(least, 0), 258},
	} {
		x := at(3, 1, c.at1)
		x[0] = c.at0
		for _, bits := range []int{0, 3, 512} {
			if b := told(t, x, 1, bits); !holdsWords(t, x, 1, bits, c.e, b) {
				t.Errorf("row %d, %d bits: e is another than %d: %v", i, bits, c.e, b)
			}
		}
	}
}

// counted is x counted in 2^-1074.
func counted(x float64) *big.Int {
	f := new(big.Float).SetFloat64(x)
	n, _ := f.SetMantExp(f, -floatLast).Int(nil)
	return n
}

// countOf is how many 2^last a dyad is, which must be right, and a multiple.
func countOf(t *testing.T, d api.Dyad, last int) *big.Int {
	t.Helper()
	n := new(big.Int)
	for _, x := range slices.Backward(d.Mag) {
		n.Or(n.Lsh(n, 64), new(big.Int).SetUint64(x))
	}
	if d.Neg {
		n.Neg(n)
	}
	if !dyad.Right(d) || len(d.Mag) > 0 && d.Exp < last {
		t.Fatalf("%v is not right, or no multiple of 2^%d", d, last)
	}
	if len(d.Mag) == 0 {
		return n
	}
	return n.Lsh(n, uint(d.Exp-last))
}

// wide is a gap of counts.
type wide struct{ lo, hi *big.Int }

func (g wide) plus(h wide) wide {
	return wide{new(big.Int).Add(g.lo, h.lo), new(big.Int).Add(g.hi, h.hi)}
}

func (g wide) less(h wide) wide {
	return wide{new(big.Int).Sub(g.lo, h.hi), new(big.Int).Sub(g.hi, h.lo)}
}

// times is the gap of the products, its ends put in order by looking at them.
func (g wide) times(c *big.Int) wide {
	p := wide{new(big.Int).Mul(g.lo, c), new(big.Int).Mul(g.hi, c)}
	if p.lo.Cmp(p.hi) > 0 {
		p.lo, p.hi = p.hi, p.lo
	}
	return p
}

// asked is the gap that angle tells, counted in 2^-bits.
func asked(t *testing.T, g api.Gap, e api.Errno, bits int) wide {
	t.Helper()
	if e != api.OK {
		t.Fatal(e)
	}
	return wide{countOf(t, g.Lo, -bits), countOf(t, g.Hi, -bits)}
}

// leastPower is e, by P8.1's words.
func leastPower(x []complex128) int {
	sizes := new(big.Int)
	for _, z := range x {
		sizes.Add(sizes, counted(math.Abs(real(z))))
		sizes.Add(sizes, counted(math.Abs(imag(z))))
	}
	sizes.Lsh(sizes, 1)
	for e := 0; ; e++ {
		if new(big.Int).Lsh(big.NewInt(1), uint(e-floatLast)).Cmp(sizes) >= 0 {
			return e
		}
	}
}

// holdsWords tells whether b is the box by P8.1's own words, with that e: each angle is asked for, the library sums.
func holdsWords(t *testing.T, x []complex128, place, bits, e int, b api.Box) bool {
	t.Helper()
	fine := bits + e
	order := big.NewInt(int64(len(x))).BitLen() - 1
	re, im := wide{new(big.Int), new(big.Int)}, wide{new(big.Int), new(big.Int)}
	for m, z := range x {
		g, f := angle.Cos(order, place*m, fine)
		c := asked(t, g, f, fine)
		g, f = angle.Sin(order, place*m, fine)
		s := asked(t, g, f, fine)
		p, q := counted(real(z)), counted(imag(z))
		re = re.plus(c.times(p).less(s.times(q)))
		im = im.plus(s.times(p).plus(c.times(q)))
	}
	last := floatLast - fine
	for i, n := range []*big.Int{re.lo, re.hi, im.lo, im.hi} {
		if countOf(t, ends(b)[i], last).Cmp(n) != 0 {
			return false
		}
	}
	return true
}

// mixed are numbers of the order, both parts of powers of two from lo to hi, of either sign, some of them noughts.
func mixed(r *rand.Rand, order, lo, hi int) []complex128 {
	part := func() float64 {
		if r.Intn(8) == 0 {
			return math.Copysign(0, float64(r.Intn(2))-0.5)
		}
		return math.Copysign(math.Ldexp(0.5+r.Float64()/2, lo+r.Intn(hi-lo+1)), float64(r.Intn(2))-0.5)
	}
	x := make([]complex128, 1<<order)
	for i := range x {
		x[i] = complex(part(), part())
	}
	return x
}

// all is the row of the order whose numbers all are z.
func all(order int, z complex128) []complex128 { return slices.Repeat([]complex128{z}, 1<<order) }

// rows are rows of the order of many kinds.
func rows(order int) [][]complex128 {
	r := rand.New(rand.NewSource(int64(80 + order)))
	return [][]complex128{
		mixed(r, order, -3, 3),
		mixed(r, order, -1073, 255),
		mixed(r, order, 200, 255),
		mixed(r, order, -1073, -1060),
		all(order, complex(limit/2, -limit/2)),
		all(order, -limit),
		all(order, complex(-0.1, 1/3.0)),
		at(order, 1<<order-1, complex(0.7, -0.3)),
		at(order, 1<<order/2, complex(minus, -least)),
	}
}

// places are places of the order, the first and the last among them; all of them where they are few.
func places(order int) []int {
	n := 1 << order
	if order > 4 {
		return []int{0, 1, 2, 3, n/8 + 1, n / 4, 3 * n / 8, n/2 - 1, n / 2, 3*n/4 - 5, n - 1}
	}
	l := make([]int, n)
	for i := range l {
		l[i] = i
	}
	return l
}

// P8.1: rows of every order but the greatest ones, of all kinds, against the chapter's own words.
func TestWords(t *testing.T) {
	for order := range 9 {
		for kind, x := range rows(order) {
			for i, place := range places(order) {
				bits := []int{0, 1, 20, 53, 100, 511, 512}[(i+kind)%7]
				if !holdsWords(t, x, place, bits, leastPower(x), told(t, x, place, bits)) {
					t.Errorf("order %d, row %d at %d, %d bits: another box", order, kind, place, bits)
				}
			}
		}
	}
}

// P8.1: the greatest rows, at the edges of places and bits.
func TestWordsGreat(t *testing.T) {
	for _, c := range []struct{ order, kind, place, bits int }{
		{14, 0, 16383, 0}, {14, 1, 5, 512}, {14, 4, 8191, 512}, {14, 5, 0, 512}, {14, 6, 4098, 60}, {13, 2, 8191, 40}, {12, 3, 1111, 512}, {11, 1, 2047, 200}, {10, 0, 341, 30}, {9, 1, 511, 512},
	} {
		t.Run(fmt.Sprint(c.order, c.kind), func(t *testing.T) {
			t.Parallel()
			x := rows(c.order)[c.kind]
			if !holdsWords(t, x, c.place, c.bits, leastPower(x), told(t, x, c.place, c.bits)) {
				t.Errorf("order %d, row %d at %d, %d bits: another box", c.order, c.kind, c.place, c.bits)
			}
		})
	}
}

// P8.1, P8.4: of noughts, of either sign, the box is nought.
func TestNoughts(t *testing.T) {
	for order := range most + 1 {
		for _, z := range []complex128{0, complex(minus, 0), complex(0, minus), complex(minus, minus)} {
			for _, place := range []int{0, 1<<order - 1} {
				for _, bits := range []int{0, 512} {
					if b := told(t, all(order, z), place, bits); !sameBox(b, api.Box{}) {
						t.Errorf("order %d at %d, %d bits: %v", order, place, bits, b)
					}
				}
			}
		}
	}
}

// P8.1: signs of noughts count for nothing.
func TestSignsOfNoughts(t *testing.T) {
	x, y := at(3, 1, 1), at(3, 1, complex(1, minus))
	for i := range y {
		if i != 1 {
			y[i] = complex(minus, minus)
		}
	}
	for place := range 8 {
		if !sameBox(told(t, x, place, 9), told(t, y, place, 9)) {
			t.Errorf("at %d noughts below 0 make another box", place)
		}
	}
}

const (
	// behind is how many bits the library's roots have behind the point; a sum by them is less than 2^-faint off for rows within the limits.
	behind = 1500
	faint  = 1100
)

// trueRoot is a root of one of the greatest order, its parts times 2^behind.
type trueRoot struct{ re, im *big.Int }

// trueRoots are made each of that before it, the first of halves of half a turn.
var trueRoots = sync.OnceValue(func() []trueRoot {
	float := func(x float64) *big.Float { return new(big.Float).SetPrec(behind + 100).SetFloat64(x) }
	re, im := float(-1), float(0)
	for range most - 1 {
		// The half of an angle from 0 to half a turn: the roots of (1 + re) / 2 and of (1 - re) / 2.
		c, s := float(1), float(1)
		c.Mul(c.Add(c, re), float(0.5))
		s.Mul(s.Sub(s, re), float(0.5))
		re, im = c.Sqrt(c), s.Sqrt(s)
	}
	whole := func(x *big.Float) *big.Int {
		n, _ := new(big.Float).SetMantExp(x, behind).Int(nil)
		return n
	}
	first := trueRoot{whole(re), whole(im)}
	times := func(a, b *big.Int) *big.Int { p := new(big.Int).Mul(a, b); return p.Rsh(p, behind) }
	l := []trueRoot{{new(big.Int).Lsh(big.NewInt(1), behind), new(big.Int)}}
	for len(l) < 1<<most {
		z := l[len(l)-1]
		p, q := times(z.re, first.re), times(z.re, first.im)
		l = append(l, trueRoot{p.Sub(p, times(z.im, first.im)), q.Add(q, times(z.im, first.re))})
	}
	return l
})

// trueAt is the true transform at a place by the sum that defines it, counted in 2^(floatLast - behind).
func trueAt(x []complex128, place int) [2]*big.Int {
	re, im := new(big.Int), new(big.Int)
	for m, z := range x {
		w := trueRoots()[place*m%len(x)*(1<<most/len(x))]
		p, q := counted(real(z)), counted(imag(z))
		re.Add(re, new(big.Int).Mul(p, w.re))
		re.Sub(re, new(big.Int).Mul(q, w.im))
		im.Add(im, new(big.Int).Mul(p, w.im))
		im.Add(im, new(big.Int).Mul(q, w.re))
	}
	return [2]*big.Int{re, im}
}

// holdTrue holds a box against the true number, and its gaps against the greatest width; it tells how wide they are.
func holdTrue(t *testing.T, b api.Box, want [2]*big.Int, bits int) [2]*big.Int {
	t.Helper()
	const last = floatLast - behind
	off := new(big.Int).Lsh(big.NewInt(1), uint(-faint-last))
	limit := new(big.Int).Lsh(big.NewInt(1), uint(-bits-last))
	var width [2]*big.Int
	for i, g := range []api.Gap{b.Re, b.Im} {
		lo, hi := countOf(t, g.Lo, last), countOf(t, g.Hi, last)
		width[i] = new(big.Int).Sub(hi, lo)
		if lo.Sub(lo, off).Cmp(want[i]) > 0 || hi.Add(hi, off).Cmp(want[i]) < 0 {
			t.Errorf("%d bits: the true part %d lies outside", bits, i)
		}
		if width[i].Cmp(limit) > 0 {
			t.Errorf("%d bits: the gap of part %d is wider than that", bits, i)
		}
	}
	return width
}

// P8.4: the box has the true number, no gap is wider than 2^-bits; with more bits each gap is narrower, unless it has no width at all.
func TestTrue(t *testing.T) {
	for _, order := range []int{0, 1, 2, 3, 4, 5, 7, 10, 14} {
		for kind, x := range rows(order) {
			for i, place := range places(order) {
				if order > 9 && (kind%4 != 0 || i%4 != 1) {
					continue
				}
				want := trueAt(x, place)
				before := holdTrue(t, told(t, x, place, 0), want, 0)
				for _, bits := range []int{1, 2, 40, 511, 512} {
					width := holdTrue(t, told(t, x, place, bits), want, bits)
					for part := range width {
						if before[part].Sign() > 0 && width[part].Cmp(before[part]) >= 0 || before[part].Sign() == 0 && width[part].Sign() != 0 {
							t.Errorf("order %d, row %d at %d: part %d is not narrower with %d bits", order, kind, place, part, bits)
						}
					}
					before = width
				}
				if t.Failed() {
					t.Fatalf("order %d, row %d at %d", order, kind, place)
				}
			}
		}
	}
}

// P3, P8.4: a transform in floats lies no further from the box than its bound, 8 k u 2^k M + 2^-1000.
func TestTransform(t *testing.T) {
	for _, order := range []int{0, 1, 2, 3, 6, 9, 14} {
		for kind, x := range rows(order) {
			if order > 9 && kind%3 != 0 {
				continue
			}
			y, e := turn.Forward(x)
			if e != api.OK {
				t.Fatal(e)
			}
			size := 0.0
			for _, z := range x {
				size = max(size, math.Abs(real(z))+math.Abs(imag(z)))
			}
			bound := new(big.Float).SetMantExp(new(big.Float).SetFloat64(size*float64(8*order)), order-53)
			bound.Add(bound, new(big.Float).SetPrec(4000).SetFloat64(0x1p-1000))
			for _, place := range []int{0, 1 << order / 3, 1<<order - 1} {
				far, e := truth.Far(told(t, x, place, 200), y[place])
				n := new(big.Float).SetInt(countOf(t, far, -3000))
				if e != api.OK || n.SetMantExp(n, -3000).Cmp(bound) > 0 {
					t.Errorf("order %d, row %d at %d: too far from the truth, %v", order, kind, place, e)
				}
			}
		}
	}
}

// P8.1: what is refused, and that of several errors the one that stands first counts; beside an error the box is nought.
func TestRefused(t *testing.T) {
	over := complex(limit, least)
	for i, c := range []struct {
		x           []complex128
		place, bits int
		e           api.Errno
	}{
		{nil, 0, 5, api.ErrShape}, {[]complex128{}, 0, 5, api.ErrShape}, {make([]complex128, 3), 0, 5, api.ErrShape}, {make([]complex128, 5), 0, 5, api.ErrShape}, {make([]complex128, 12288), 0, 5, api.ErrShape}, {make([]complex128, 16383), 0, 5, api.ErrShape}, {make([]complex128, 16385), 0, 5, api.ErrShape}, {make([]complex128, 32768), 0, 5, api.ErrShape},
		{nil, -1, -1, api.ErrShape}, {[]complex128{complex(nan, inf), over, 0}, 9, 513, api.ErrShape},
		{[]complex128{complex(nan, 0)}, 0, 5, api.ErrNumber}, {[]complex128{complex(0, nan)}, 0, 5, api.ErrNumber}, {[]complex128{complex(inf, 0)}, 0, 5, api.ErrNumber}, {[]complex128{complex(0, inf)}, 0, 5, api.ErrNumber}, {[]complex128{complex(-inf, 0)}, 0, 5, api.ErrNumber}, {[]complex128{complex(0, -inf)}, 0, 5, api.ErrNumber},
		{at(14, 16383, complex(1, nan)), 0, 5, api.ErrNumber}, {at(14, 0, complex(-inf, 1)), 0, 5, api.ErrNumber}, {[]complex128{over, complex(nan, 0)}, 0, 5, api.ErrNumber}, {[]complex128{great, 1, 1, complex(0, inf)}, -1, -1, api.ErrNumber}, {[]complex128{complex(nan, great)}, 1, 513, api.ErrNumber},
		{[]complex128{over}, 0, 5, api.ErrOver}, {[]complex128{complex(least, limit)}, 0, 5, api.ErrOver}, {[]complex128{complex(-limit, least)}, 0, 5, api.ErrOver}, {[]complex128{complex(-least, -limit)}, 0, 5, api.ErrOver}, {[]complex128{complex(limit/2, math.Nextafter(limit/2, inf))}, 0, 5, api.ErrOver}, {[]complex128{complex(math.Nextafter(limit, inf), 0)}, 0, 5, api.ErrOver}, {[]complex128{complex(0, -math.Nextafter(limit, inf))}, 0, 5, api.ErrOver}, {[]complex128{great}, 0, 5, api.ErrOver}, {[]complex128{complex(great, -great)}, 0, 5, api.ErrOver}, {at(14, 16383, over), 0, 5, api.ErrOver},
		{[]complex128{over}, -1, 5, api.ErrOver}, {[]complex128{over}, 0, 513, api.ErrOver}, {[]complex128{1, over}, 2, -1, api.ErrOver},
		{[]complex128{1}, -1, 5, api.ErrArg}, {[]complex128{1}, 1, 5, api.ErrArg}, {[]complex128{1, 2}, 2, 5, api.ErrArg}, {make([]complex128, 16384), 16384, 5, api.ErrArg}, {make([]complex128, 16384), -1, 5, api.ErrArg}, {[]complex128{1}, math.MinInt, 5, api.ErrArg}, {[]complex128{1}, math.MaxInt, 5, api.ErrArg},
		{[]complex128{1}, 0, -1, api.ErrArg}, {[]complex128{1}, 0, 513, api.ErrArg}, {[]complex128{0}, 0, 513, api.ErrArg}, {[]complex128{1}, 0, math.MinInt, api.ErrArg}, {[]complex128{1}, 0, math.MaxInt, api.ErrArg}, {[]complex128{0, 0}, 3, 513, api.ErrArg},
		{[]complex128{limit}, 0, 5, api.OK}, {[]complex128{complex(limit/2, -limit/2)}, 0, 5, api.OK}, {[]complex128{complex(-math.Nextafter(limit, 0), 0x1p203)}, 0, 5, api.OK}, {[]complex128{complex(0, -limit), limit}, 1, 0, api.OK}, {at(14, 16383, -limit), 16383, 512, api.OK}, {make([]complex128, 16384), 16383, 512, api.OK},
	} {
		b, e := truth.Sum(c.x, c.place, c.bits)
		if e != c.e || e != api.OK && !sameBox(b, api.Box{}) {
			t.Errorf("case %d, %d numbers at %d, %d bits: %v, %v", i, len(c.x), c.place, c.bits, b, e)
		}
	}
}

// spoil overwrites all limbs of a dyad, its spare room too.
func spoil(d api.Dyad) {
	l := d.Mag[:cap(d.Mag)]
	for i := range l {
		l[i] = 0xdead
	}
}

// copied is a box of new memory.
func copied(b api.Box) api.Box {
	for _, d := range []*api.Dyad{&b.Re.Lo, &b.Re.Hi, &b.Im.Lo, &b.Im.Hi} {
		d.Mag = slices.Clone(d.Mag)
	}
	return b
}

// R3: a row is only read, its spare room too; the four ends of a box share no memory, nor do two answers.
func TestSumMemory(t *testing.T) {
	for _, order := range []int{0, 1, 2, 3, 5} {
		n := 1 << order
		long := mixed(rand.New(rand.NewSource(38)), order+1, -3, 3)
		long[0] = complex(0.3, 0.7)
		keep := slices.Clone(long)
		for place := range n {
			want := copied(told(t, long[:n], place, 100))
			other := told(t, long[:n], place, 100)
			for i := range ends(want) {
				b := told(t, long[:n], place, 100)
				spoil(ends(b)[i])
				for k, d := range ends(b) {
					if k != i && !same(d, ends(want)[k]) {
						t.Errorf("order %d at %d: the ends %d and %d share memory", order, place, i, k)
					}
				}
			}
			if !sameBox(other, want) {
				t.Errorf("order %d at %d: two answers share memory", order, place)
			}
			if !slices.Equal(long, keep) {
				t.Fatalf("order %d at %d: the row has changed", order, place)
			}
		}
	}
}

// R4: calls side by side, of one row, tell what they tell one by one.
func TestSideBySide(t *testing.T) {
	x := rows(6)[0]
	var want, got [16]api.Box
	for i := range want {
		want[i] = told(t, x, i, 30*i)
	}
	var calls sync.WaitGroup
	for i := range got {
		calls.Go(func() { got[i], _ = truth.Sum(x, i, 30*i) })
	}
	calls.Wait()
	for i := range got {
		if !sameBox(got[i], want[i]) {
			t.Errorf("call %d tells another box", i)
		}
	}
}
