package turn_test

import (
	"math"
	"math/big"
	"math/rand"
	"slices"
	"sync"
	"testing"

	"rosette/api"
	"rosette/parts"
	"rosette/turn"
	"rosette/wheel"
)

const (
	least     = 0x1p-1074 // the least subnormal float
	leastFull = 0x1p-1022 // the least float that is not subnormal
	great     = math.MaxFloat64
)

var (
	minus = math.Copysign(0, -1)
	inf   = math.Inf(1)
	nan   = math.NaN()
)

// forward is the transform of a right row.
func forward(t *testing.T, x []complex128) []complex128 {
	t.Helper()
	y, e := turn.Forward(x)
	if e != api.OK || len(y) != len(x) {
		t.Fatalf("Forward of %d: %d numbers, %v", len(x), len(y), e)
	}
	return y
}

// back is what the transform y comes of.
func back(t *testing.T, y []complex128) []complex128 {
	t.Helper()
	x, e := turn.Back(y)
	if e != api.OK || len(x) != len(y) {
		t.Fatalf("Back of %d: %d numbers, %v", len(y), len(x), e)
	}
	return x
}

// firstNot is the first place at which the two numbers do not stand so to one another, or -1.
func firstNot(stand func(a, b complex128) bool, a, b []complex128) int {
	for i := range max(len(a), len(b)) {
		if i >= len(a) || i >= len(b) || !stand(a[i], b[i]) {
			return i
		}
	}
	return -1
}

// each is the list of what f makes of l's numbers.
func each(l []complex128, f func(complex128) complex128) []complex128 {
	m := make([]complex128, len(l))
	for i, z := range l {
		m[i] = f(z)
	}
	return m
}

// mixed is a row of the order, of numbers with parts of sizes from 2^low to 2^high and either sign.
func mixed(r *rand.Rand, order, low, high int) []complex128 {
	part := func() float64 {
		x := math.Ldexp(1+r.Float64(), low+r.Intn(high-low))
		return math.Copysign(x, r.Float64()-0.5)
	}
	l := make([]complex128, 1<<order)
	for i := range l {
		l[i] = complex(part(), part())
	}
	return l
}

// whole is a row of the order, of small whole numbers: sums and differences of them are often 0.
func whole(r *rand.Rand, order int) []complex128 {
	l := make([]complex128, 1<<order)
	for i := range l {
		l[i] = complex(float64(r.Intn(5)-2), float64(r.Intn(5)-2))
	}
	return l
}

// strewn is a row of the order, of numbers with parts taken out of a list.
func strewn(r *rand.Rand, order int, floats ...float64) []complex128 {
	l := make([]complex128, 1<<order)
	for i := range l {
		l[i] = complex(floats[r.Intn(len(floats))], floats[r.Intn(len(floats))])
	}
	return l
}

// one is a row of noughts of the order, but for one number.
func one(order, place int, z complex128) []complex128 {
	l := make([]complex128, 1<<order)
	l[place] = z
	return l
}

// rows are rows of the order of every kind: ordinary ones, noughts of either sign, the least and the greatest floats, ones with a single infinity or NaN in either part, and all mixed.
func rows(order int) [][]complex128 {
	r := rand.New(rand.NewSource(int64(order) + 70))
	last := 1<<order - 1
	return [][]complex128{
		mixed(r, order, -3, 3),
		mixed(r, order, -40, 40),
		mixed(r, order, -900, 900),
		whole(r, order),
		strewn(r, order, 0),
		strewn(r, order, minus),
		strewn(r, order, 0, minus),
		strewn(r, order, 0, minus, 1, -1),
		strewn(r, order, least, -least, 3*least, leastFull, -leastFull, leastFull-least, 0, minus),
		mixed(r, order, -1074, -1000),
		strewn(r, order, great, -great, 0x1p1023, -0x1p1022, 1),
		mixed(r, order, 1000, 1024),
		one(order, 0, complex(inf, 1)),
		one(order, last, complex(1, -inf)),
		one(order, last/2, complex(nan, 1)),
		one(order, last, complex(minus, nan)),
		one(order, last, complex(minus, 0)),
		one(order, last, complex(0, minus)),
		strewn(r, order, 1, 2, -3, 0.1, inf),
		strewn(r, order, 0, minus, 1, -3, least, great, inf, -inf, nan),
	}
}

// turnedAbout is the place whose bits, as many as the order, are those of i in the other order.
func turnedAbout(order, i int) int {
	place := 0
	for range order {
		place = 2*place + i&1
		i >>= 1
	}
	return place
}

// steps is what DOC.md says under "What a transform does, to the bit", word by word; roots has at each order its roots as told.
func steps(x []complex128, roots [][]complex128) []complex128 {
	n := len(x)
	k := len(roots) - 1
	a := make([]complex128, n)
	for i := range a {
		a[i] = x[turnedAbout(k, i)]
	}
	for s := 1; s <= k; s++ {
		m := 1 << s
		for b := 0; b < n; b += m {
			for j := 0; j < m/2; j++ {
				u, v, w := a[b+j], a[b+j+m/2], roots[s][j]
				p, q, c, d := real(w), imag(w), real(v), imag(v)
				pc, qd, pd, qc := float64(p*c), float64(q*d), float64(p*d), float64(q*c)
				re, im := float64(pc-qd), float64(pd+qc)
				a[b+j] = complex(real(u)+re, imag(u)+im)
				a[b+j+m/2] = complex(real(u)-re, imag(u)-im)
			}
		}
	}
	return a
}

// told has at each order up to this one its roots as told at the steps of the first half, each asked for by itself.
func told(t *testing.T, order int) [][]complex128 {
	t.Helper()
	l := make([][]complex128, order+1)
	for s := range l {
		for j := range 1 << s / 2 {
			z, e := wheel.Root(s, j)
			if e != api.OK {
				t.Fatal(s, j, e)
			}
			l[s] = append(l[s], z)
		}
	}
	return l
}

// conjugates are the conjugates of roots, noughts turned about too.
func conjugates(roots [][]complex128) [][]complex128 {
	l := make([][]complex128, len(roots))
	for s := range l {
		l[s] = each(roots[s], func(z complex128) complex128 { return complex(real(z), math.Copysign(imag(z), -sign(imag(z)))) })
	}
	return l
}

func sign(x float64) float64 { return math.Copysign(1, x) }

// P7.1, P7.2, P7.3: what the document writes out, and DOC.md's example 4.
func TestExamples(t *testing.T) {
	for _, x := range []struct{ row, want []complex128 }{
		{[]complex128{1, 0}, []complex128{1, 1}},
		{[]complex128{1, -1}, []complex128{0, 2}},
		{[]complex128{1, 2, 3, 4}, []complex128{10, complex(-2, -2), -2, complex(-2, 2)}},
		{[]complex128{complex(3, -4)}, []complex128{complex(3, -4)}},
	} {
		y := forward(t, x.row)
		if firstNot(parts.Like, y, x.want) >= 0 {
			t.Errorf("Forward of %v: %v", x.row, y)
		}
		if z := back(t, x.want); firstNot(parts.Like, z, x.row) >= 0 {
			t.Errorf("Back of %v: %v", x.want, z)
		}
	}
	for _, x := range []struct{ a, b, want []complex128 }{
		{[]complex128{complex(1, 2)}, []complex128{complex(3, 4)}, []complex128{complex(-5, 10)}},
		{nil, nil, nil},
		{[]complex128{}, nil, nil},
		{nil, []complex128{}, nil},
	} {
		if l, e := turn.Point(x.a, x.b); e != api.OK || firstNot(parts.Same, l, x.want) >= 0 {
			t.Errorf("Point of %v and %v: %v, %v", x.a, x.b, l, e)
		}
	}
}

// P7.1, P7.2: signs of noughts by hand: products by the root 1 are made, and do change them.
func TestNoughtsByHand(t *testing.T) {
	for _, x := range []struct{ row, forward, back []complex128 }{
		// The root times (-0, -0): -0 less -0 is 0; -0 plus -0 is -0. The conjugate (1, -0): -0 less 0 is -0; -0 plus 0 is 0.
		{
			[]complex128{complex(minus, minus), complex(minus, minus)},
			[]complex128{complex(0, minus), complex(minus, 0)},
			[]complex128{complex(minus, 0), complex(0, minus)},
		},
		// The root times (-0, 0): -0 less 0 is -0; 0 plus -0 is 0. The conjugate: -0 less -0 is 0; 0 plus 0 is 0.
		{
			[]complex128{complex(minus, minus), complex(minus, 0)},
			[]complex128{complex(minus, 0), complex(0, minus)},
			[]complex128{complex(0, 0), complex(minus, minus)},
		},
		// One number alone is never multiplied.
		{
			[]complex128{complex(minus, minus)},
			[]complex128{complex(minus, minus)},
			[]complex128{complex(minus, minus)},
		},
	} {
		if y := forward(t, x.row); firstNot(parts.Same, y, x.forward) >= 0 {
			t.Errorf("Forward of %v: %v", x.row, y)
		}
		if y := back(t, x.row); firstNot(parts.Same, y, x.back) >= 0 {
			t.Errorf("Back of %v: %v", x.row, y)
		}
	}
}

// P7.1: what is not finite goes through, by the products as they are: infinity times 0 is NaN.
func TestNotFiniteByHand(t *testing.T) {
	for _, x := range []struct{ row, want []complex128 }{
		{[]complex128{complex(inf, 1)}, []complex128{complex(inf, 1)}},
		{[]complex128{complex(nan, -inf)}, []complex128{complex(nan, -inf)}},
		{[]complex128{complex(inf, 1), 1}, []complex128{complex(inf, 1), complex(inf, 1)}},
		{[]complex128{1, complex(inf, 1)}, []complex128{complex(inf, nan), complex(-inf, nan)}},
		{[]complex128{1, complex(1, inf)}, []complex128{complex(nan, inf), complex(nan, -inf)}},
		{[]complex128{complex(nan, 1), 1}, []complex128{complex(nan, 1), complex(nan, 1)}},
		{[]complex128{complex(great, 1), great}, []complex128{complex(inf, 1), complex(0, 1)}},
	} {
		if y := forward(t, x.row); firstNot(parts.Same, y, x.want) >= 0 {
			t.Errorf("Forward of %v: %v", x.row, y)
		}
	}
}

// P7.1, P7.2: rows of every order and kind, to the bit, by the steps as DOC.md gives them.
func TestToTheBit(t *testing.T) {
	all := told(t, api.MaxOrder)
	for order := range api.MaxOrder + 1 {
		roots := all[:order+1]
		conj := conjugates(roots)
		for kind, x := range rows(order) {
			if i := firstNot(parts.Same, forward(t, x), steps(x, roots)); i >= 0 {
				t.Errorf("order %d, row %d: Forward is another at %d", order, kind, i)
			}
			want := each(steps(x, conj), func(z complex128) complex128 {
				return complex(math.Ldexp(real(z), -order), math.Ldexp(imag(z), -order))
			})
			if i := firstNot(parts.Same, back(t, x), want); i >= 0 {
				t.Errorf("order %d, row %d: Back is another at %d", order, kind, i)
			}
		}
	}
}

// P7.2: at the least floats Back is rounded once, at last: a half goes to the even one.
func TestBackScalesAtLast(t *testing.T) {
	for _, x := range []struct{ row, want []complex128 }{
		{[]complex128{least, 0}, []complex128{0, 0}},
		{[]complex128{3 * least, 0}, []complex128{2 * least, 2 * least}},
		{[]complex128{least, least}, []complex128{least, 0}},
		{[]complex128{complex(0, 2*least), complex(0, least)}, []complex128{complex(0, 2*least), 0}},
		{[]complex128{great, great}, []complex128{complex(inf, 0), 0}},
	} {
		if y := back(t, x.row); firstNot(parts.Like, y, x.want) >= 0 {
			t.Errorf("Back of %v: %v", x.row, y)
		}
	}
}

// P7.1, P7.2, P7.3: rows that are none, of any numbers, are refused, with nothing beside the error.
func TestWrong(t *testing.T) {
	r := rand.New(rand.NewSource(7))
	for _, n := range []int{0, 3, 5, 6, 7, 9, 12, 15, 17, 100, 1000, 8191, 8193, 12288, 16383, 16385, 32767, 32768, 65536} {
		for _, l := range [][]complex128{make([]complex128, n), strewn(r, 16, 1, nan, inf)[:n]} {
			if y, e := turn.Forward(l); e != api.ErrShape || len(y) != 0 {
				t.Errorf("Forward of %d: %d numbers, %v", n, len(y), e)
			}
			if y, e := turn.Back(l); e != api.ErrShape || len(y) != 0 {
				t.Errorf("Back of %d: %d numbers, %v", n, len(y), e)
			}
		}
	}
	if y, e := turn.Forward(nil); e != api.ErrShape || len(y) != 0 {
		t.Errorf("Forward of none: %v, %v", y, e)
	}
	if y, e := turn.Back(nil); e != api.ErrShape || len(y) != 0 {
		t.Errorf("Back of none: %v, %v", y, e)
	}
	for _, n := range [][2]int{{1, 0}, {0, 1}, {2, 1}, {1, 2}, {2, 4}, {3, 4}, {16384, 16383}, {16384, 8192}, {5, 40000}} {
		if y, e := turn.Point(make([]complex128, n[0]), make([]complex128, n[1])); e != api.ErrShape || len(y) != 0 {
			t.Errorf("Point of %d and %d: %d numbers, %v", n[0], n[1], len(y), e)
		}
	}
}

// P7.3: products place by place, to the bit, of rows of any length.
func TestPoint(t *testing.T) {
	r := rand.New(rand.NewSource(73))
	for _, n := range []int{0, 1, 2, 3, 5, 100, 16384, 16385, 40000} {
		a := strewn(r, 16, 0, minus, 1, -3, 0.1, 1/3.0, least, great, -0x1p600, inf, -inf, nan)[:n]
		b := mixed(r, 16, -600, 600)[:n]
		if n > 2 {
			b[1], b[2] = complex(inf, minus), complex(minus, nan)
		}
		want := make([]complex128, n)
		for i := range want {
			p, q, c, d := real(a[i]), imag(a[i]), real(b[i]), imag(b[i])
			pc, qd, pd, qc := float64(p*c), float64(q*d), float64(p*d), float64(q*c)
			want[i] = complex(pc-qd, pd+qc)
		}
		if l, e := turn.Point(a, b); e != api.OK || firstNot(parts.Same, l, want) >= 0 {
			t.Errorf("Point of %d: another at %d, %v", n, firstNot(parts.Same, l, want), e)
		}
	}
}

// fine is how many bits the true numbers are reckoned with: so many more than floats have that their own faults count for nothing.
const fine = 300

func exact(x float64) *big.Float { return new(big.Float).SetPrec(fine).SetFloat64(x) }

func product(a, b *big.Float) *big.Float { return new(big.Float).SetPrec(fine).Mul(a, b) }

// trueNumber is a number that is not rounded to floats.
type trueNumber struct{ re, im *big.Float }

func (a trueNumber) times(b trueNumber) trueNumber {
	re, im := product(a.re, b.re), product(a.re, b.im)
	return trueNumber{re.Sub(re, product(a.im, b.im)), im.Add(im, product(a.im, b.re))}
}

// trueRoots are the roots of the order: the powers of the first, which comes of halves of half a turn.
func trueRoots(order int) []trueNumber {
	first := trueNumber{exact(-1), exact(0)}
	if order == 0 {
		first.re = exact(1)
	}
	for range order - 1 {
		// The half of an angle from 0 to half a turn: the roots of (1 + re) / 2 and of (1 - re) / 2.
		re, im := exact(1), exact(1)
		re.Mul(re.Add(re, first.re), exact(0.5))
		im.Mul(im.Sub(im, first.re), exact(0.5))
		first = trueNumber{re.Sqrt(re), im.Sqrt(im)}
	}
	l := []trueNumber{{exact(1), exact(0)}}
	for len(l) < 1<<order {
		l = append(l, l[len(l)-1].times(first))
	}
	return l
}

// trueAt is the true transform at one place, by the sum that defines it.
func trueAt(x []complex128, roots []trueNumber, place int) trueNumber {
	sum := trueNumber{exact(0), exact(0)}
	for m, z := range x {
		p := trueNumber{exact(real(z)), exact(imag(z))}.times(roots[place*m%len(roots)])
		sum.re.Add(sum.re, p.re)
		sum.im.Add(sum.im, p.im)
	}
	return sum
}

// bound is 8 k u 2^k M + 2^-1000, M being the greatest Size in the row.
func bound(x []complex128, order int) *big.Float {
	size := 0.0
	for _, z := range x {
		size = max(size, parts.Size(z))
	}
	b := product(exact(float64(8*order)*0x1p-53), product(exact(float64(len(x))), exact(size)))
	return b.Add(b, exact(0x1p-1000))
}

// within tells whether both numbers are no further apart than that.
func within(a, b trueNumber, far *big.Float) bool {
	re, im := exact(0).Sub(a.re, b.re), exact(0).Sub(a.im, b.im)
	square := product(re, re)
	return square.Add(square, product(im, im)).Cmp(product(far, far)) <= 0
}

// trueOf is a finite number, unrounded.
func trueOf(z complex128) trueNumber { return trueNumber{exact(real(z)), exact(imag(z))} }

// finiteRows are rows of the order of finite numbers of Sizes of at most 2^900.
func finiteRows(order int) [][]complex128 {
	r := rand.New(rand.NewSource(int64(order) + 740))
	return [][]complex128{
		mixed(r, order, -3, 3),
		mixed(r, order, -1074, 0),
		mixed(r, order, 800, 899),
		mixed(r, order, -1074, -1000),
		mixed(r, order, -1074, -1070),
		whole(r, order),
		strewn(r, order, 0x1p899),
		strewn(r, order, 0.1, -0.1, 1/3.0),
		one(order, 1<<order-1, complex(0.7, -0.3)),
	}
}

// places are the places of the order that are looked at: all of them where they are few.
func places(order int) []int {
	n := 1 << order
	if order > 6 {
		return []int{0, 1, 2, 3, n/8 + 1, n / 4, n/2 - 1, n / 2, n/2 + 1, 3*n/4 - 5, n - 2, n - 1}
	}
	l := make([]int, n)
	for i := range l {
		l[i] = i
	}
	return l
}

// P7.4: Forward lies within the bound of the true transform, Back of Forward within as much of the row.
func TestBound(t *testing.T) {
	for _, order := range []int{0, 1, 2, 3, 4, 5, 6, 9, 11, 14} {
		roots := trueRoots(order)
		for kind, x := range finiteRows(order) {
			if order > 9 && kind%3 != 0 {
				continue
			}
			far := bound(x, order)
			y := forward(t, x)
			for _, i := range places(order) {
				if !within(trueOf(y[i]), trueAt(x, roots, i), far) {
					t.Errorf("order %d, row %d: Forward at %d is too far off: %v", order, kind, i, y[i])
				}
			}
			for i, z := range back(t, y) {
				if !within(trueOf(z), trueOf(x[i]), far) {
					t.Errorf("order %d, row %d: Back of Forward at %d is too far off: %v of %v", order, kind, i, z, x[i])
				}
			}
		}
	}
}

// P7.4: the bound is no idle one: it is held against the right number, and not met by another row's transform.
func TestBoundTells(t *testing.T) {
	x := finiteRows(5)[0]
	y := forward(t, x)
	roots := trueRoots(5)
	for i := range 31 {
		if within(trueOf(y[i]), trueAt(x, roots, i+1), bound(x, 5)) {
			t.Errorf("at %d the bound does not tell places apart", i)
		}
	}
}

// P7.4: a row turned by quarters has a transform turned so, signs of noughts aside; what is not finite too.
func TestTurned(t *testing.T) {
	for _, order := range []int{0, 1, 2, 3, 4, 7, 10} {
		for kind, x := range rows(order) {
			y := forward(t, x)
			for quarters := -1; quarters < 5; quarters++ {
				f := func(z complex128) complex128 { return parts.Turn(z, quarters) }
				if i := firstNot(parts.Like, forward(t, each(x, f)), each(y, f)); i >= 0 {
					t.Errorf("order %d, row %d, turned by %d: another at %d", order, kind, quarters, i)
				}
			}
		}
	}
}

// P7.4: a row scaled by a power of two has its transform scaled, to the bit, far from the ends of floats.
func TestScaled(t *testing.T) {
	r := rand.New(rand.NewSource(744))
	for _, order := range []int{0, 1, 2, 3, 5, 8, 14} {
		for _, x := range [][]complex128{mixed(r, order, -20, 20), whole(r, order)} {
			y := forward(t, x)
			for _, power := range []int{-600, -1, 1, 33, 800} {
				f := func(z complex128) complex128 { return parts.Scale(z, power) }
				if i := firstNot(parts.Same, forward(t, each(x, f)), each(y, f)); i >= 0 {
					t.Errorf("order %d, scaled by %d: another at %d", order, power, i)
				}
			}
		}
	}
}

// P7.4: Back is Forward with conjugates before and behind, scaled, signs of noughts aside.
func TestConjugates(t *testing.T) {
	for _, order := range []int{0, 1, 2, 3, 4, 7, 10, 14} {
		for kind, y := range rows(order) {
			want := each(forward(t, each(y, parts.Conj)), func(z complex128) complex128 {
				return parts.Scale(parts.Conj(z), -order)
			})
			if i := firstNot(parts.Like, back(t, y), want); i >= 0 {
				t.Errorf("order %d, row %d: another at %d", order, kind, i)
			}
		}
	}
}

// P7.1, P7.2: of small whole numbers, at the orders whose roots are quarters, both ways are exact.
func TestExactAtSmallOrders(t *testing.T) {
	r := rand.New(rand.NewSource(71))
	for _, order := range []int{0, 1, 2} {
		roots := trueRoots(order)
		for range 50 {
			x := whole(r, order)
			y := forward(t, x)
			for i, z := range y {
				if !within(trueOf(z), trueAt(x, roots, i), exact(0x1p-80)) {
					t.Errorf("Forward of %v: %v", x, y)
				}
			}
			if z := back(t, y); firstNot(parts.Like, z, x) >= 0 {
				t.Errorf("Back of Forward of %v: %v", x, z)
			}
		}
	}
}

// spoil overwrites all that a list has, its spare room too.
func spoil(l []complex128) {
	l = l[:cap(l)]
	for i := range l {
		l[i] = complex(7, 7)
	}
}

// R3: rows are only read, their spare room too; answers are new memory.
func TestMemory(t *testing.T) {
	r := rand.New(rand.NewSource(3))
	for _, order := range []int{0, 1, 2, 3, 6} {
		n := 1 << order
		long := mixed(r, order+1, -3, 3)
		other := mixed(r, order+1, -3, 3)
		keep, otherKeep := slices.Clone(long), slices.Clone(other)
		for name, call := range map[string]func() ([]complex128, api.Errno){
			"Forward": func() ([]complex128, api.Errno) { return turn.Forward(long[:n]) },
			"Back":    func() ([]complex128, api.Errno) { return turn.Back(long[:n]) },
			"Point":   func() ([]complex128, api.Errno) { return turn.Point(long[:n], other[:n]) },
			"Square":  func() ([]complex128, api.Errno) { return turn.Point(long[:n], long[:n]) },
		} {
			first, e := call()
			want := slices.Clone(first)
			second, f := call()
			if e != api.OK || f != api.OK || len(first) != n {
				t.Fatalf("%s of %d: %d numbers, %v, %v", name, n, len(first), e, f)
			}
			spoil(second)
			if firstNot(parts.Same, first, want) >= 0 {
				t.Errorf("%s of %d: two answers share memory", name, n)
			}
			spoil(first)
			if firstNot(parts.Same, long, keep) >= 0 || firstNot(parts.Same, other, otherKeep) >= 0 {
				t.Fatalf("%s of %d: what was handed in has changed", name, n)
			}
			if third, _ := call(); firstNot(parts.Same, third, want) >= 0 {
				t.Errorf("%s of %d: another answer afterwards", name, n)
			}
		}
	}
}

// R4: calls side by side, of one row, tell what they tell one by one.
func TestSideBySide(t *testing.T) {
	x := mixed(rand.New(rand.NewSource(4)), 9, -3, 3)
	y := forward(t, x)
	z := back(t, x)
	var calls sync.WaitGroup
	var l, m [8][]complex128
	for i := range l {
		calls.Go(func() { l[i], _ = turn.Forward(x); m[i], _ = turn.Back(x) })
	}
	calls.Wait()
	for i := range l {
		if firstNot(parts.Same, l[i], y) >= 0 || firstNot(parts.Same, m[i], z) >= 0 {
			t.Errorf("call %d tells another row", i)
		}
	}
}
