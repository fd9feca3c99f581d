package wheel_test

import (
	"math"
	"math/big"
	"slices"
	"sync"
	"testing"

	"rosette/angle"
	"rosette/api"
	"rosette/parts"
	"rosette/wheel"
)

// h is the float nearest to the root of a half.
const h = 6369051672525773 * 0x1p-53

// outOf are orders that have no wheel.
var outOf = []int{-1, 15, 16, 31, 63, 64, 65, -14, -64, 1 << 40, math.MaxInt, math.MinInt}

// row is the row of a right order.
func row(t *testing.T, order int) []complex128 {
	t.Helper()
	l, e := wheel.Row(order)
	if e != api.OK || len(l) != 1<<order {
		t.Fatalf("Row(%d): %d roots, %v", order, len(l), e)
	}
	return l
}

// half is the half row of a right order.
func half(t *testing.T, order int) []complex128 {
	t.Helper()
	l, e := wheel.Half(order)
	if e != api.OK || len(l) != max(1<<order/2, 1) {
		t.Fatalf("Half(%d): %d roots, %v", order, len(l), e)
	}
	return l
}

// firstOther is the first place at which the lists are not the same to the bit, or -1.
func firstOther(a, b []complex128) int {
	for i := range max(len(a), len(b)) {
		if i >= len(a) || i >= len(b) || !parts.Same(a[i], b[i]) {
			return i
		}
	}
	return -1
}

// P5.1, P5.2: the rows that the document writes out, all noughts +0.
func TestExamples(t *testing.T) {
	rows := [][]complex128{
		{complex(1, 0)},
		{complex(1, 0), complex(-1, 0)},
		{complex(1, 0), complex(0, 1), complex(-1, 0), complex(0, -1)},
		{complex(1, 0), complex(h, h), complex(0, 1), complex(-h, h), complex(-1, 0), complex(-h, -h), complex(0, -1), complex(h, -h)},
	}
	halves := [][]complex128{
		{complex(1, 0)},
		{complex(1, 0)},
		{complex(1, 0), complex(0, 1)},
		{complex(1, 0), complex(h, h), complex(0, 1), complex(-h, h)},
	}
	for order := range rows {
		if l := row(t, order); firstOther(l, rows[order]) >= 0 {
			t.Errorf("Row(%d) = %v", order, l)
		}
		if l := half(t, order); firstOther(l, halves[order]) >= 0 {
			t.Errorf("Half(%d) = %v", order, l)
		}
		for step, want := range rows[order] {
			if z, e := wheel.Root(order, step); e != api.OK || !parts.Same(z, want) {
				t.Errorf("Root(%d, %d) = %v, %v", order, step, z, e)
			}
		}
	}
	if z, e := wheel.Root(3, 9); e != api.OK || !parts.Same(z, complex(h, h)) {
		t.Errorf("Root(3, 9) = %v, %v", z, e)
	}
}

// P5.1: a row has the roots as told, one by one, of every order; a half row those of the first half.
func TestRowsAreRoots(t *testing.T) {
	for order := range api.MaxOrder + 1 {
		all, some := row(t, order), half(t, order)
		want := make([]complex128, len(all))
		for i := range want {
			z, e := angle.Near(order, i)
			if e != api.OK {
				t.Fatal(order, i, e)
			}
			want[i] = z
		}
		if i := firstOther(all, want); i >= 0 {
			t.Errorf("Row(%d) at %d: %v, told %v", order, i, all[i], want[i])
		}
		if i := firstOther(some, want[:len(some)]); i >= 0 {
			t.Errorf("Half(%d) at %d: %v, told %v", order, i, some[i], want[i])
		}
	}
}

// P5.1: Root is what angle.Near tells, at steps below 0, of many turns, and at the ends of int; and it stands in the row there.
func TestRoot(t *testing.T) {
	steps := []int{0, 1, 2, 3, 5, 9, 100, 4095, 4096, 12289, 16383, 16384, 16385, 1 << 20, 1<<20 + 77, 1<<40 + 3, 1<<62 + 1, 987654321987654321, math.MaxInt, math.MaxInt - 1}
	for _, s := range slices.Clone(steps) {
		steps = append(steps, -s)
	}
	steps = append(steps, math.MinInt, math.MinInt+1, math.MinInt+4097)
	for order := range api.MaxOrder + 1 {
		l := row(t, order)
		for _, step := range steps {
			want, e := angle.Near(order, step)
			if e != api.OK {
				t.Fatal(order, step, e)
			}
			z, e := wheel.Root(order, step)
			if e != api.OK || !parts.Same(z, want) {
				t.Errorf("Root(%d, %d) = %v, %v, told %v", order, step, z, e, want)
			}
			if place := step & (len(l) - 1); !parts.Same(z, l[place]) {
				t.Errorf("Root(%d, %d) = %v, in the row %v", order, step, z, l[place])
			}
		}
	}
}

// fine is how many bits the true roots have behind the point, by which a row is tried.
const fine = 300

func scaled(n int64) *big.Int { return new(big.Int).Lsh(big.NewInt(n), fine) }

func times(a, b *big.Int) *big.Int { p := new(big.Int).Mul(a, b); return p.Rsh(p, fine) }

// firstStep is the parts of the root next to 1 of the order 14: halves of an angle, from a quarter of a turn on.
func firstStep() (re, im *big.Int) {
	re = new(big.Int)
	for range api.MaxOrder - 2 {
		re.Add(re, scaled(1))
		re.Lsh(re, fine-1)
		re.Sqrt(re)
	}
	im = new(big.Int).Sub(scaled(1), times(re, re))
	return re, im.Sqrt(im.Lsh(im, fine))
}

// nearest is the float nearest to a part; what the reckoning's own faults make of 0 is 0.
func nearest(part *big.Int) float64 {
	if part.BitLen() < fine-200 {
		return 0
	}
	f := new(big.Float).SetInt(part)
	x, _ := f.SetMantExp(f, -fine).Float64()
	return x
}

// P5.1, P5.2: the greatest row against true roots, each one the product of that before it and the first step's.
func TestTruth(t *testing.T) {
	wre, wim := firstStep()
	re, im := scaled(1), new(big.Int)
	for i, z := range row(t, api.MaxOrder) {
		if want := complex(nearest(re), nearest(im)); !parts.Same(z, want) {
			t.Fatalf("Row(14) at %d: %v, truly %v", i, z, want)
		}
		next := times(re, wre)
		next.Sub(next, times(im, wim))
		up := times(re, wim)
		re, im = next, up.Add(up, times(im, wre))
	}
	if x, y := nearest(re), nearest(im); x != 1 || y != 0 {
		t.Fatalf("the true roots do not come round: %v, %v", x, y)
	}
}

// P5.2: what follows for the roots of one row.
func TestFollows(t *testing.T) {
	for order := range api.MaxOrder + 1 {
		l := row(t, order)
		n := len(l)
		if !parts.Same(l[0], complex(1, 0)) {
			t.Errorf("Row(%d) begins with %v", order, l[0])
		}
		for i := range n {
			if z := l[(n-i)%n]; !parts.Like(z, parts.Conj(l[i])) {
				t.Errorf("Row(%d) at n - %d: %v, conjugate %v", order, i, z, l[i])
			}
		}
		if order < 2 {
			continue
		}
		for i := range n {
			if z := l[(i+n/4)%n]; !parts.Like(z, parts.Turn(l[i], 1)) {
				t.Errorf("Row(%d) a quarter on from %d: %v, there %v", order, i, z, l[i])
			}
		}
		for i := range n/8 + 1 {
			if z := l[n/4-i]; !parts.Same(z, complex(imag(l[i]), real(l[i]))) {
				t.Errorf("Row(%d) at n/4 - %d: %v, at %d %v", order, i, z, i, l[i])
			}
		}
	}
}

// P5.2: Half is the first half of Row; each second root of a row is the row of the order below.
func TestRowsInRows(t *testing.T) {
	for order := range api.MaxOrder + 1 {
		l := row(t, order)
		if i := firstOther(half(t, order), l[:max(len(l)/2, 1)]); i >= 0 {
			t.Errorf("Half(%d) is not half of the row at %d", order, i)
		}
		if order == 0 {
			continue
		}
		var second []complex128
		for i := 0; i < len(l); i += 2 {
			second = append(second, l[i])
		}
		if i := firstOther(second, row(t, order-1)); i >= 0 {
			t.Errorf("each second of Row(%d) is not Row(%d) at %d", order, order-1, i)
		}
	}
}

// P5.1, P5.2: every nought of a row is +0, and they stand at the quarters alone.
func TestNoughts(t *testing.T) {
	for order := range api.MaxOrder + 1 {
		noughts := 0
		for i, z := range row(t, order) {
			for _, x := range []float64{real(z), imag(z)} {
				if x == 0 {
					noughts++
				}
				if x == 0 && math.Signbit(x) {
					t.Errorf("Row(%d) at %d has a nought below 0: %v", order, i, z)
				}
			}
		}
		if want := min(1<<order, 4); noughts != want {
			t.Errorf("Row(%d) has %d noughts, not %d", order, noughts, want)
		}
	}
}

// P5.1: an order that is none is refused by each call, with nothing beside the error.
func TestWrong(t *testing.T) {
	for _, order := range outOf {
		if l, e := wheel.Row(order); e != api.ErrArg || len(l) != 0 {
			t.Errorf("Row(%d): %d roots, %v", order, len(l), e)
		}
		if l, e := wheel.Half(order); e != api.ErrArg || len(l) != 0 {
			t.Errorf("Half(%d): %d roots, %v", order, len(l), e)
		}
		for _, step := range []int{0, 1, -1, math.MaxInt, math.MinInt} {
			if z, e := wheel.Root(order, step); e != api.ErrArg || !parts.Same(z, 0) {
				t.Errorf("Root(%d, %d) = %v, %v", order, step, z, e)
			}
		}
	}
}

// spoil overwrites all that a list has, its spare room too.
func spoil(l []complex128) {
	l = l[:cap(l)]
	for i := range l {
		l[i] = complex(7, 7)
	}
}

// R3: no row shares memory with another one, told before or after.
func TestMemory(t *testing.T) {
	for _, order := range []int{0, 1, 2, 3, 4, 10} {
		for _, call := range []func(*testing.T, int) []complex128{row, half} {
			before := call(t, order)
			keep := slices.Clone(before)
			spoil(row(t, order))
			spoil(half(t, order))
			if firstOther(before, keep) >= 0 || firstOther(call(t, order), keep) >= 0 {
				t.Errorf("order %d: a row shares memory with another", order)
			}
		}
	}
}

// R4: calls side by side tell what they tell one by one.
func TestSideBySide(t *testing.T) {
	want := row(t, 9)
	var calls sync.WaitGroup
	var l [8][]complex128
	for i := range l {
		calls.Go(func() { l[i], _ = wheel.Row(9) })
	}
	calls.Wait()
	for _, x := range l {
		if i := firstOther(x, want); i >= 0 {
			t.Errorf("another row at %d", i)
		}
	}
}
