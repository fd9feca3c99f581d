package fault_test

import (
	"math"
	"math/big"
	"math/rand"
	"slices"
	"testing"

	"rosette/angle"
	"rosette/api"
	"rosette/fault"
	"rosette/parts"
	"rosette/turn"
)

// fine is how many bits the true numbers are reckoned with: so many more than floats have that their own faults count for nothing.
const fine = 300

func exact(x float64) *big.Float { return new(big.Float).SetPrec(fine).SetFloat64(x) }

func product(a, b *big.Float) *big.Float { return new(big.Float).SetPrec(fine).Mul(a, b) }

// trueNumber is a number that is not rounded to floats.
type trueNumber struct{ re, im *big.Float }

func trueOf(z complex128) trueNumber { return trueNumber{exact(real(z)), exact(imag(z))} }

func (a trueNumber) times(b trueNumber) trueNumber {
	re, im := product(a.re, b.re), product(a.re, b.im)
	return trueNumber{re.Sub(re, product(a.im, b.im)), im.Add(im, product(a.im, b.re))}
}

// within tells whether both numbers are no further apart than that.
func within(a, b trueNumber, far float64) bool {
	re, im := exact(0).Sub(a.re, b.re), exact(0).Sub(a.im, b.im)
	square := product(re, re)
	return square.Add(square, product(im, im)).Cmp(product(exact(far), exact(far))) <= 0
}

// trueRoots are the roots of the order: the powers of the first, which comes of halves of half a turn.
func trueRoots(order int) []trueNumber {
	first := trueOf(-1)
	if order == 0 {
		first = trueOf(1)
	}
	for range order - 1 {
		// The half of an angle from 0 to half a turn: the roots of (1 + re) / 2 and of (1 - re) / 2.
		re, im := exact(1), exact(1)
		re.Mul(re.Add(re, first.re), exact(0.5))
		im.Mul(im.Sub(im, first.re), exact(0.5))
		first = trueNumber{re.Sqrt(re), im.Sqrt(im)}
	}
	l := []trueNumber{trueOf(1)}
	for len(l) < 1<<order {
		l = append(l, l[len(l)-1].times(first))
	}
	return l
}

// trueAt is the true transform at one place, by the sum that defines it.
func trueAt(x []complex128, roots []trueNumber, place int) trueNumber {
	sum := trueOf(0)
	for m, z := range x {
		p := trueOf(z).times(roots[place*m%len(roots)])
		sum.re.Add(sum.re, p.re)
		sum.im.Add(sum.im, p.im)
	}
	return sum
}

// places are the places of the order that are looked at: all of them where they are few.
func places(order int) []int {
	n := 1 << order
	if order > 6 {
		return []int{0, 1, 2, 3, n/8 + 1, n / 4, n/2 - 1, n / 2, n/2 + 1, 3*n/4 - 5, n - 2, n - 1}
	}
	l := make([]int, n)
	for i := range l {
		l[i] = i
	}
	return l
}

// mixed is a row of numbers of both signs whose parts have powers from low to high.
func mixed(r *rand.Rand, order, low, high int) []complex128 {
	part := func() float64 {
		x := math.Ldexp(1+r.Float64(), low+r.Intn(high-low+1))
		return math.Copysign(x, r.Float64()-0.5)
	}
	l := make([]complex128, 1<<order)
	for i := range l {
		l[i] = complex(part(), part())
	}
	return l
}

// allOf is a row of one number.
func allOf(order int, z complex128) []complex128 { return slices.Repeat([]complex128{z}, 1<<order) }

// finiteRows are rows of the order of finite numbers of Sizes of at most 2^900.
func finiteRows(order int) [][]complex128 {
	r := rand.New(rand.NewSource(int64(order) + 950))
	last := allOf(order, 0)
	last[len(last)-1] = complex(0.7, -0.3)
	return [][]complex128{
		mixed(r, order, -3, 3),
		mixed(r, order, -1074, 897),
		mixed(r, order, 890, 897),
		mixed(r, order, -1074, -1060),
		allOf(order, complex(mostSize/2, -mostSize/2)),
		allOf(order, complex(1.0/3, 0.1)),
		allOf(order, 0),
		allOf(order, complex(0, least)),
		last,
	}
}

// turnBound is Turn of a row's order and its greatest Size.
func turnBound(t *testing.T, order int, x []complex128) float64 {
	t.Helper()
	most := 0.0
	for _, z := range x {
		most = max(most, parts.Size(z))
	}
	f, e := fault.Turn(order, most)
	if e != api.OK {
		t.Fatal(order, most, e)
	}
	return f
}

func forward(t *testing.T, x []complex128) []complex128 {
	t.Helper()
	y, e := turn.Forward(x)
	if e != api.OK {
		t.Fatal(e)
	}
	return y
}

func back(t *testing.T, y []complex128) []complex128 {
	t.Helper()
	x, e := turn.Back(y)
	if e != api.OK {
		t.Fatal(e)
	}
	return x
}

// P9.1: each root as told is at most Roots from the true one.
func TestRootsFar(t *testing.T) {
	for _, order := range []int{0, 1, 2, 3, 4, 7, 10, 14} {
		far, _ := fault.Roots(order)
		roots := trueRoots(order)
		step := 1 + len(roots)/1024*37
		for i := 0; i < len(roots); i += step {
			z, e := angle.Near(order, i)
			// The roots of the tests are themselves off by some 2^-280.
			if e != api.OK || !within(trueOf(z), roots[i], far) {
				t.Errorf("the root of the order %d at %d is too far off: %v, %v", order, i, z, e)
			}
		}
	}
}

// P9.4: Forward lies within Turn of the true transform, Back of Forward within Turn of the row.
func TestTurnFar(t *testing.T) {
	for _, order := range []int{0, 1, 2, 3, 4, 5, 6, 8, 11, 14} {
		roots := trueRoots(order)
		for kind, x := range finiteRows(order) {
			if order > 8 && kind%3 != 2 {
				continue
			}
			far := turnBound(t, order, x)
			y := forward(t, x)
			for _, i := range places(order) {
				if !within(trueOf(y[i]), trueAt(x, roots, i), far) {
					t.Errorf("order %d, row %d: Forward at %d is too far off: %v", order, kind, i, y[i])
				}
			}
			for i, z := range back(t, y) {
				if !within(trueOf(z), trueOf(x[i]), far) {
					t.Errorf("order %d, row %d: Back of Forward at %d is too far off: %v of %v", order, kind, i, z, x[i])
				}
			}
		}
	}
}

// wholes is a row of whole numbers, as reals, whose sizes are at most most.
func wholes(r *rand.Rand, order int, most float64) []complex128 {
	l := make([]complex128, 1<<order)
	for i := range l {
		l[i] = complex(math.Trunc(most*(2*r.Float64()-1)), 0)
	}
	// One number at least has the greatest size.
	l[r.Intn(len(l))] = complex(-most, 0)
	return l
}

// roundProduct is the exact number of the round product of rows of whole numbers at a place.
func roundProduct(a, b []complex128, place int) trueNumber {
	sum := trueOf(0)
	for m, z := range a {
		other := b[(place-m+len(b))%len(b)]
		sum.re.Add(sum.re, product(exact(real(z)), exact(real(other))))
	}
	return sum
}

// P9.4: round products by transforms lie within Ring of the exact ones.
func TestRingFar(t *testing.T) {
	sizes := [][2]float64{{1, 1}, {9, 0x1p14}, {0x1p14, 0x1p14}, {0x1p53, 1}, {0x1p53, 0x1p53}, {0x1p60, 0x1p30}, {0, 5}}
	for _, order := range []int{0, 1, 2, 3, 4, 5, 6, 9, 12, 14} {
		r := rand.New(rand.NewSource(int64(order) + 980))
		for _, s := range sizes {
			a, b := wholes(r, order, s[0]), wholes(r, order, s[1])
			if order%3 == 0 {
				a, b = allOf(order, complex(s[0], 0)), allOf(order, complex(-s[1], 0))
			}
			far, e := fault.Ring(order, s[0], s[1])
			if e != api.OK {
				t.Fatal(order, s, e)
			}
			p, e := turn.Point(forward(t, a), forward(t, b))
			if e != api.OK {
				t.Fatal(order, s, e)
			}
			l := back(t, p)
			for _, i := range places(order) {
				if want := roundProduct(a, b, i); !within(trueOf(l[i]), want, far) {
					t.Errorf("order %d, sizes %v: the product at %d is too far off: %v of %v", order, s, i, l[i], want.re)
				}
			}
		}
	}
}

// P9.4: no bound falls as an order, or a size, rises. One that is past all floats counts as infinite.
func TestNeverFalls(t *testing.T) {
	told := func(f float64, e api.Errno) float64 {
		if e == api.ErrOver {
			return inf
		}
		return f
	}
	l := append(edges(), drawn(40, 999)...)
	slices.Sort(l)
	for order := range api.MaxOrder + 1 {
		for i, a := range l {
			f := told(fault.Turn(order, a))
			if i > 0 && f < told(fault.Turn(order, l[i-1])) || order > 0 && f < told(fault.Turn(order-1, a)) {
				t.Errorf("Turn(%d, %g) falls", order, a)
			}
			for j, b := range l {
				f := told(fault.Ring(order, a, b))
				if i > 0 && f < told(fault.Ring(order, l[i-1], b)) || j > 0 && f < told(fault.Ring(order, a, l[j-1])) || order > 0 && f < told(fault.Ring(order-1, a, b)) {
					t.Errorf("Ring(%d, %g, %g) falls", order, a, b)
				}
			}
		}
	}
}

// P9.2, P9.3: every bound is at least the one that DOC.md proves, and above it by no more than the roundings.
func TestNotBelow(t *testing.T) {
	for order := range api.MaxOrder + 1 {
		for _, a := range drawn(60, int64(order)+970) {
			proved := rat(share(8*order, order))
			proved.Add(proved.Mul(proved, rat(a)), rat(lost))
			f, _ := fault.Turn(order, a)
			if rat(f).Cmp(proved) < 0 || rat(f).Cmp(proved.Mul(proved, rat(1+0x1p-50))) > 0 {
				t.Errorf("Turn(%d, %g) = %g", order, a, f)
			}
			// The root of 2^order: the squares are compared.
			f, e := fault.Ring(order, 3, a)
			square := rat(share(16*(order+1), order))
			square.Mul(square.Mul(square, rat(3)), rat(a))
			square.Mul(square.Mul(square, square), rat(math.Ldexp(1, order)))
			if e != api.OK || new(big.Rat).Mul(rat(f), rat(f)).Cmp(square) < 0 {
				t.Errorf("Ring(%d, 3, %g) = %g, %v", order, a, f, e)
			}
		}
	}
}

// R4: calls side by side tell what one alone does.
func TestSideBySide(t *testing.T) {
	want, _ := fault.Ring(9, 1.1, 1.3)
	all := make(chan float64)
	for range 8 {
		go func() {
			f, _ := fault.Ring(9, 1.1, 1.3)
			all <- f
		}()
	}
	for range 8 {
		if f := <-all; !same(f, want) {
			t.Error(f, want)
		}
	}
}
