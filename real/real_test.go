package real_test

import (
	"math"
	"math/rand"
	"slices"
	"sync"
	"testing"

	"rosette/api"
	"rosette/parts"
	reals "rosette/real" // the package's own name would hide the language's real
	"rosette/turn"
)

const (
	least     = 0x1p-1074 // the least subnormal float
	leastFull = 0x1p-1022 // the least float that is not subnormal
	great     = math.MaxFloat64
)

var (
	minus = math.Copysign(0, -1)
	inf   = math.Inf(1)
	nan   = math.NaN()
)

// wrongLengths are lengths that no row of an order has.
var wrongLengths = []int{0, 3, 5, 6, 7, 9, 12, 15, 17, 100, 1000, 8191, 8193, 12288, 16383, 16385, 24576, 32767, 32768, 65536}

// forward is the transform of right reals.
func forward(t *testing.T, a []float64) []complex128 {
	t.Helper()
	y, e := reals.Forward(a)
	if e != api.OK || len(y) != len(a) {
		t.Fatalf("Forward of %d: %d numbers, %v", len(a), len(y), e)
	}
	return y
}

// both are the transforms of two right rows of reals.
func both(t *testing.T, a, b []float64) ([]complex128, []complex128) {
	t.Helper()
	y, z, e := reals.Both(a, b)
	if e != api.OK || len(y) != len(a) || len(z) != len(b) {
		t.Fatalf("Both of %d: %d and %d numbers, %v", len(a), len(y), len(z), e)
	}
	return y, z
}

// back is the row of reals of a right row.
func back(t *testing.T, y []complex128) []float64 {
	t.Helper()
	a, e := reals.Back(y)
	if e != api.OK || len(a) != len(y) {
		t.Fatalf("Back of %d: %d numbers, %v", len(y), len(a), e)
	}
	return a
}

// turned is turn's own transform of the numbers whose parts are those.
func turned(t *testing.T, re, im []float64) []complex128 {
	t.Helper()
	x := make([]complex128, len(re))
	for m := range x {
		x[m] = complex(re[m], im[m])
	}
	y, e := turn.Forward(x)
	if e != api.OK {
		t.Fatal(len(re), e)
	}
	return y
}

// joined is the list of reals as numbers.
func joined(a []float64) []complex128 {
	l := make([]complex128, len(a))
	for i, x := range a {
		l[i] = complex(x, 0)
	}
	return l
}

// firstNot is the first place at which the two numbers do not stand so to one another, or -1.
func firstNot(stand func(a, b complex128) bool, a, b []complex128) int {
	for i := range max(len(a), len(b)) {
		if i >= len(a) || i >= len(b) || !stand(a[i], b[i]) {
			return i
		}
	}
	return -1
}

// sameFloats tells whether the two lists are the same, bit by bit, any NaN as good as another.
func sameFloats(a, b []float64) bool {
	return slices.EqualFunc(a, b, func(x, y float64) bool { return parts.Same(complex(x, 0), complex(y, 0)) })
}

// mixed is a row of the order, of reals with sizes from 2^low to 2^high and either sign.
func mixed(r *rand.Rand, order, low, high int) []float64 {
	l := make([]float64, 1<<order)
	for i := range l {
		l[i] = math.Copysign(math.Ldexp(1+r.Float64(), low+r.Intn(high-low)), r.Float64()-0.5)
	}
	return l
}

// strewn is a row of the order, of reals taken out of a list.
func strewn(r *rand.Rand, order int, floats ...float64) []float64 {
	l := make([]float64, 1<<order)
	for i := range l {
		l[i] = floats[r.Intn(len(floats))]
	}
	return l
}

// one is a row of noughts of the order, but for one real.
func one(order, place int, x float64) []float64 {
	l := make([]float64, 1<<order)
	l[place] = x
	return l
}

// rows are rows of reals of the order, of every kind: ordinary ones, noughts of either sign, the least and the greatest floats, ones with a single infinity or NaN, and all mixed.
func rows(order int) [][]float64 {
	r := rand.New(rand.NewSource(int64(order) + 100))
	last := 1<<order - 1
	return [][]float64{
		mixed(r, order, -3, 3),
		mixed(r, order, -900, 900),
		strewn(r, order, -2, -1, 0, 1, 2),
		strewn(r, order, 0),
		strewn(r, order, minus),
		strewn(r, order, 0, minus, 1, -1),
		strewn(r, order, least, -least, 3*least, leastFull, -leastFull, leastFull-least, 0, minus),
		mixed(r, order, -1074, -1050),
		strewn(r, order, great, -great, 0x1p1023, -0x1p1022, 1),
		one(order, 0, inf),
		one(order, last, -inf),
		one(order, last/2, nan),
		one(order, last, minus),
		strewn(r, order, 1, 2, -3, 0.1, inf),
		strewn(r, order, 0, minus, 1, -3, least, great, inf, -inf, nan),
	}
}

// pairs are rows of reals of the order two by two: each kind stands in either row, with its neighbour; at lesser orders with others too, and with itself.
func pairs(order int) [][2][]float64 {
	l := rows(order)
	wild := l[len(l)-1]
	var p [][2][]float64
	for i, a := range l {
		p = append(p, [2][]float64{a, l[(i+1)%len(l)]})
		if order < 13 {
			p = append(p, [2][]float64{l[(i+5)%len(l)], a})
		}
		if order < 9 {
			p = append(p, [2][]float64{a, a}, [2][]float64{a, wild}, [2][]float64{wild, a})
		}
	}
	return p
}

// numberRows are rows of numbers of the order, no transforms of reals for the most part.
func numberRows(order int) [][]complex128 {
	var l [][]complex128
	for _, p := range pairs(order) {
		x := make([]complex128, 1<<order)
		for i := range x {
			x[i] = complex(p[0][i], p[1][i])
		}
		l = append(l, x)
	}
	return l
}

// across is the place across from j, by the chapter's words.
func across(n, j int) int {
	if j == 0 {
		return 0
	}
	return n - j
}

// P10.1 to P10.4: what the chapter writes out.
func TestExamples(t *testing.T) {
	y := forward(t, []float64{1, 2, 3, 4})
	want := []complex128{10, complex(-2, -2), -2, complex(-2, 2)}
	if firstNot(parts.Like, y, want) >= 0 || !reals.Even(y) {
		t.Errorf("Forward of 1, 2, 3, 4: %v", y)
	}
	for _, l := range [][]complex128{y, want} {
		if a := back(t, l); !slices.Equal(a, []float64{1, 2, 3, 4}) {
			t.Errorf("Back of %v: %v", l, a)
		}
	}
	y, z := both(t, []float64{1, 2}, []float64{3, 4})
	if firstNot(parts.Like, y, []complex128{3, -1}) >= 0 || firstNot(parts.Like, z, []complex128{7, -1}) >= 0 {
		t.Errorf("Both of 1, 2 and 3, 4: %v, %v", y, z)
	}
	y, z = both(t, []float64{5}, []float64{6})
	if firstNot(parts.Like, y, []complex128{5}) >= 0 || firstNot(parts.Like, z, []complex128{6}) >= 0 {
		t.Errorf("Both of 5 and 6: %v, %v", y, z)
	}
	if reals.Even(nil) || reals.Even([]complex128{complex(0, 1)}) || !reals.Even([]complex128{complex(1, nan)}) {
		t.Error("Even of none, of (0, 1), of (1, NaN)")
	}
}

// P10.1: signs of noughts and what is not finite, by hand: each real has +0 beside it, and is turned as turn turns it.
func TestForwardByHand(t *testing.T) {
	for _, x := range []struct {
		row  []float64
		want []complex128
	}{
		{[]float64{minus}, []complex128{complex(minus, 0)}},
		{[]float64{-3}, []complex128{complex(-3, 0)}},
		{[]float64{inf}, []complex128{complex(inf, 0)}},
		{[]float64{nan}, []complex128{complex(nan, 0)}},
		// The root 1 times (-0, +0): -0 less 0 is -0; 0 plus -0 is 0.
		{[]float64{minus, minus}, []complex128{complex(minus, 0), complex(0, 0)}},
		// The root 1 times an infinity: infinity times the root's nought is NaN.
		{[]float64{1, inf}, []complex128{complex(inf, nan), complex(-inf, nan)}},
		{[]float64{inf, 1}, []complex128{complex(inf, 0), complex(inf, 0)}},
		{[]float64{great, great}, []complex128{complex(inf, 0), 0}},
		{[]float64{least, least}, []complex128{2 * least, 0}},
	} {
		if y := forward(t, x.row); firstNot(parts.Same, y, x.want) >= 0 {
			t.Errorf("Forward of %v: %v", x.row, y)
		}
	}
}

// P10.1: rows of every order and kind: turn's transform of the numbers (a_m, +0), to the bit.
func TestForward(t *testing.T) {
	for order := range api.MaxOrder + 1 {
		for kind, a := range rows(order) {
			want := turned(t, a, make([]float64, len(a)))
			if i := firstNot(parts.Same, forward(t, a), want); i >= 0 {
				t.Errorf("order %d, row %d: another at %d", order, kind, i)
			}
		}
	}
}

// P10.2: by hand. One number is across from itself, and so are both of two.
func TestBothByHand(t *testing.T) {
	for _, x := range []struct {
		a, b          []float64
		first, second []complex128
	}{
		// (5, 6) plus (5, -6) is (10, 0); less it (0, 12), of which a quarter back is (12, -0).
		{[]float64{5}, []float64{6}, []complex128{complex(5, 0)}, []complex128{complex(6, minus)}},
		{[]float64{-5}, []float64{0}, []complex128{complex(-5, 0)}, []complex128{complex(0, minus)}},
		// -0 plus -0 is -0, and a nought less itself +0.
		{[]float64{minus}, []float64{minus}, []complex128{complex(minus, 0)}, []complex128{complex(minus, minus)}},
		{[]float64{0}, []float64{minus}, []complex128{complex(0, 0)}, []complex128{complex(minus, minus)}},
		// Infinity less infinity is NaN, and only there.
		{[]float64{inf}, []float64{1}, []complex128{complex(inf, 0)}, []complex128{complex(1, nan)}},
		{[]float64{1}, []float64{-inf}, []complex128{complex(1, nan)}, []complex128{complex(-inf, minus)}},
		{[]float64{nan}, []float64{2}, []complex128{complex(nan, 0)}, []complex128{complex(2, nan)}},
		{[]float64{2}, []float64{nan}, []complex128{complex(2, nan)}, []complex128{complex(nan, minus)}},
		// Added first, scaled then: at the least floats nothing is lost, at the greatest all is.
		{[]float64{least}, []float64{3 * least}, []complex128{least}, []complex128{complex(3*least, minus)}},
		{[]float64{great}, []float64{-great}, []complex128{complex(inf, 0)}, []complex128{complex(-inf, minus)}},
		{[]float64{0x1p1022}, []float64{0x1p1023}, []complex128{0x1p1022}, []complex128{complex(inf, minus)}},
		// The row's own transform is (4, 6), (-2, -2); both places are across from themselves.
		{[]float64{1, 3}, []float64{2, 4}, []complex128{4, -2}, []complex128{complex(6, minus), complex(-2, minus)}},
	} {
		y, z := both(t, x.a, x.b)
		if firstNot(parts.Same, y, x.first) >= 0 || firstNot(parts.Same, z, x.second) >= 0 {
			t.Errorf("Both of %v and %v: %v, %v", x.a, x.b, y, z)
		}
	}
}

// P10.2: of four numbers each the places 1 and 3 are across from one another.
func TestBothOfFour(t *testing.T) {
	y, z := both(t, []float64{1, 2, 3, 4}, []float64{5, -7, 11, 0})
	first := []complex128{10, complex(-2, -2), -2, complex(-2, 2)}
	second := []complex128{9, complex(-6, -7), 23, complex(-6, 7)}
	if firstNot(parts.Like, y, first) >= 0 || firstNot(parts.Like, z, second) >= 0 {
		t.Error(y, z)
	}
}

// P10.2: rows of every order and kind, to the bit: parts' calls on turn's transform of the numbers (a_m, b_m), in the order told.
func TestBoth(t *testing.T) {
	for order := range api.MaxOrder + 1 {
		n := 1 << order
		for kind, p := range pairs(order) {
			y := turned(t, p[0], p[1])
			first, second := make([]complex128, n), make([]complex128, n)
			for j := range n {
				conj := parts.Conj(y[across(n, j)])
				sum, rest := parts.Add(y[j], conj), parts.Sub(y[j], conj)
				first[j] = parts.Scale(sum, -1)
				second[j] = parts.Turn(parts.Scale(rest, -1), -1)
			}
			l, m := both(t, p[0], p[1])
			if i := firstNot(parts.Same, l, first); i >= 0 {
				t.Errorf("order %d, rows %d: the first is another at %d", order, kind, i)
			}
			if i := firstNot(parts.Same, m, second); i >= 0 {
				t.Errorf("order %d, rows %d: the second is another at %d", order, kind, i)
			}
		}
	}
}

// P10.3: by hand: what stands beside the reals is dropped, and all steps are turn.Back's.
func TestBackByHand(t *testing.T) {
	for _, x := range []struct {
		row  []complex128
		want []float64
	}{
		{[]complex128{complex(3, 4)}, []float64{3}},
		{[]complex128{complex(minus, inf)}, []float64{minus}},
		{[]complex128{complex(nan, 0)}, []float64{nan}},
		{[]complex128{complex(-inf, nan)}, []float64{-inf}},
		{[]complex128{complex(3, 5), complex(-1, 9)}, []float64{1, 2}},
		// (0, 1) alone at the place 1 of four goes round by quarters, the other way.
		{[]complex128{0, complex(0, 4), 0, 0}, []float64{0, 1, 0, -1}},
		{[]complex128{3 * least, 0}, []float64{2 * least, 2 * least}},
		{[]complex128{great, great}, []float64{inf, 0}},
	} {
		a := back(t, x.row)
		like := slices.EqualFunc(a, x.want, func(p, q float64) bool { return parts.Like(complex(p, 0), complex(q, 0)) })
		if !like || len(a) == 1 && !sameFloats(a, x.want) {
			t.Errorf("Back of %v: %v", x.row, a)
		}
	}
}

// P10.3: rows of every order and kind: all re of turn.Back, to the bit.
func TestBack(t *testing.T) {
	for order := range api.MaxOrder + 1 {
		for kind, y := range numberRows(order) {
			x, e := turn.Back(y)
			if e != api.OK {
				t.Fatal(order, kind, e)
			}
			want := make([]float64, len(x))
			for m, z := range x {
				want[m] = real(z)
			}
			if !sameFloats(back(t, y), want) {
				t.Errorf("order %d, row %d: another", order, kind)
			}
		}
	}
}

// evened is the row with each number behind the middle made the conjugate of that across, and nothing beside the reals at both places that are across from themselves.
func evened(y []complex128) []complex128 {
	l := slices.Clone(y)
	n := len(l)
	for j := range n {
		switch k := across(n, j); {
		case k == j:
			l[j] = complex(real(l[j]), 0)
		case k < j:
			l[j] = complex(real(l[k]), -imag(l[k]))
		}
	}
	return l
}

// P10.4: rows that are Even, and the same with one part of one number made another.
func TestEven(t *testing.T) {
	for order := range api.MaxOrder + 1 {
		n := 1 << order
		for kind, x := range numberRows(order) {
			y := evened(x)
			if !reals.Even(y) {
				t.Errorf("order %d, row %d: not even", order, kind)
			}
			for _, j := range []int{0, 1, n / 4, n/2 - 1, n / 2, n/2 + 1, n - 1} {
				if j < 0 || j >= n {
					continue
				}
				keep := y[j]
				y[j] = complex(real(keep), 7.25)
				if reals.Even(y) {
					t.Errorf("order %d, row %d: even with another im at %d", order, kind, j)
				}
				// Of a number that is across from itself any re will do.
				y[j] = complex(7.25, imag(keep))
				if reals.Even(y) != (across(n, j) == j) {
					t.Errorf("order %d, row %d: even with another re at %d: %v", order, kind, j, reals.Even(y))
				}
				y[j] = keep
			}
		}
	}
}

// P10.4: by the chapter's words, of small rows of all numbers whose parts are of a few kinds.
func TestEvenByWords(t *testing.T) {
	floats := []float64{0, minus, 1, -1, inf, -inf, nan}
	var all []complex128
	for _, re := range floats {
		for _, im := range floats {
			all = append(all, complex(re, im))
		}
	}
	alike := func(x, y float64) bool { return x == y || x != x && y != y }
	conjugate := func(a, b complex128) bool { return alike(real(a), real(b)) && alike(imag(a), -imag(b)) }
	hold := func(y ...complex128) {
		want := true
		for j := range y {
			want = want && conjugate(y[j], y[across(len(y), j)])
		}
		if reals.Even(y) != want {
			t.Errorf("Even of %v is %v", y, !want)
		}
	}
	for _, a := range all {
		hold(a)
		for _, b := range all {
			hold(a, b)
			hold(0, a, complex(inf, nan), b)
			hold(complex(1, minus), 1, a, b)
			hold(1, a, 2, 3, -1, 3, 2, b)
		}
	}
}

// P10.4: a row of no order is not even, whatever stands in it.
func TestEvenWrong(t *testing.T) {
	for _, n := range wrongLengths {
		if reals.Even(make([]complex128, n)) || reals.Even(slices.Repeat([]complex128{complex(1, nan)}, n)) {
			t.Errorf("%d numbers are even", n)
		}
	}
	if reals.Even(nil) {
		t.Error("none is even")
	}
	for order := range api.MaxOrder + 1 {
		if !reals.Even(make([]complex128, 1<<order)) {
			t.Errorf("noughts of the order %d are not even", order)
		}
	}
}

// P10.1, P10.2, P10.3: rows that are none, or do not fit, are refused, with nothing beside the error.
func TestWrong(t *testing.T) {
	r := rand.New(rand.NewSource(10))
	floats := strewn(r, 16, 1, nan, inf)
	refused := func(a, b []float64) {
		if y, z, e := reals.Both(a, b); e != api.ErrShape || len(y) != 0 || len(z) != 0 {
			t.Errorf("Both of %d and %d: %d and %d numbers, %v", len(a), len(b), len(y), len(z), e)
		}
	}
	for _, n := range wrongLengths {
		if y, e := reals.Forward(floats[:n]); e != api.ErrShape || len(y) != 0 {
			t.Errorf("Forward of %d: %d numbers, %v", n, len(y), e)
		}
		if a, e := reals.Back(make([]complex128, n)); e != api.ErrShape || len(a) != 0 {
			t.Errorf("Back of %d: %d numbers, %v", n, len(a), e)
		}
		refused(floats[:n], floats[:n])
		refused(floats[:n], floats[:1])
		refused(floats[:16384], floats[:n])
	}
	for _, n := range [][2]int{{1, 2}, {2, 1}, {2, 4}, {4, 2}, {16384, 8192}, {8192, 16384}, {16384, 32768}, {1, 16384}} {
		refused(floats[:n[0]], floats[:n[1]])
	}
	refused(nil, nil)
	refused(nil, floats[:1])
	refused(floats[:1], nil)
	if y, e := reals.Forward(nil); e != api.ErrShape || len(y) != 0 {
		t.Error("Forward of none", y, e)
	}
	if a, e := reals.Back(nil); e != api.ErrShape || len(a) != 0 {
		t.Error("Back of none", a, e)
	}
}

// spoil overwrites all that a list has, its spare room too.
func spoil[N float64 | complex128](l []N) {
	l = l[:cap(l)]
	for i := range l {
		l[i] = 7
	}
}

// R3: rows are only read, their spare room too; answers are new memory.
func TestMemory(t *testing.T) {
	r := rand.New(rand.NewSource(3))
	for _, order := range []int{0, 1, 2, 3, 6} {
		n := 1 << order
		a, b, row := mixed(r, order+1, -3, 3), mixed(r, order+1, -3, 3), numberRows(order + 1)[0]
		aKeep, bKeep, rowKeep := slices.Clone(a), slices.Clone(b), slices.Clone(row)
		untouched := func(call string) {
			if !sameFloats(a, aKeep) || !sameFloats(b, bKeep) || firstNot(parts.Same, row, rowKeep) >= 0 {
				t.Fatalf("order %d: %s has changed what was handed in", order, call)
			}
		}
		reals.Even(row[:n])
		untouched("Even")
		for name, call := range map[string]func() []complex128{
			"Forward":          func() []complex128 { return forward(t, a[:n]) },
			"Back":             func() []complex128 { return joined(back(t, row[:n])) },
			"Both, the first":  func() []complex128 { y, _ := both(t, a[:n], b[:n]); return y },
			"Both, the second": func() []complex128 { _, z := both(t, a[:n], b[:n]); return z },
		} {
			first, second := call(), call()
			want := slices.Clone(first)
			spoil(second)
			if firstNot(parts.Same, first, want) >= 0 {
				t.Errorf("order %d, %s: two answers share memory", order, name)
			}
			spoil(first)
			untouched(name)
			if firstNot(parts.Same, call(), want) >= 0 {
				t.Errorf("order %d, %s: another answer afterwards", order, name)
			}
		}
	}
}

// R3: the two rows of Both share no memory, neither do two rows of Back.
func TestApart(t *testing.T) {
	for order := range 7 {
		p := pairs(order)[0]
		y, z := both(t, p[0], p[1])
		first, second := both(t, p[0], p[1])
		spoil(first)
		if firstNot(parts.Same, second, z) >= 0 {
			t.Errorf("order %d: spoiling the first row spoils the second", order)
		}
		first, second = both(t, p[0], p[1])
		spoil(second)
		if firstNot(parts.Same, first, y) >= 0 {
			t.Errorf("order %d: spoiling the second row spoils the first", order)
		}
		a, b := back(t, y), back(t, y)
		keep := slices.Clone(b)
		spoil(a)
		if !sameFloats(b, keep) {
			t.Errorf("order %d: two rows of Back share memory", order)
		}
	}
}

// R3: one row may be handed in twice.
func TestOneRowTwice(t *testing.T) {
	a := []float64{1, -2, 3, 0.5, 7, 0, -1, 1}
	keep := slices.Clone(a)
	y, z := both(t, a, a)
	l, m := both(t, a, slices.Clone(a))
	if firstNot(parts.Same, y, l) >= 0 || firstNot(parts.Same, z, m) >= 0 || !sameFloats(a, keep) {
		t.Error(y, z, a)
	}
}

// R4: calls side by side, of one row, tell what they tell one by one.
func TestSideBySide(t *testing.T) {
	r := rand.New(rand.NewSource(4))
	a, b := mixed(r, 8, -3, 3), mixed(r, 8, -3, 3)
	y := forward(t, a)
	p, q := both(t, a, b)
	x := back(t, p)
	var calls sync.WaitGroup
	for i := range 8 {
		calls.Go(func() {
			l, _ := reals.Forward(a)
			first, second, _ := reals.Both(a, b)
			m, _ := reals.Back(p)
			if firstNot(parts.Same, l, y) >= 0 || firstNot(parts.Same, first, p) >= 0 || firstNot(parts.Same, second, q) >= 0 || !sameFloats(m, x) || !reals.Even(p) {
				t.Errorf("call %d tells another row", i)
			}
		})
	}
	calls.Wait()
}
