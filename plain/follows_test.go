package plain_test

import (
	"math/rand"
	"slices"
	"testing"

	"rosette/api"
	"rosette/plain"
)

// times is the product of rows whose bound is below 1/4.
func times(t *testing.T, a, b []int64) []int64 {
	t.Helper()
	l, e := plain.Times(a, b)
	if e != api.OK || len(l) != len(a)+len(b)-1 {
		t.Fatalf("Times of %d and %d: %d numbers, %v", len(a), len(b), len(l), e)
	}
	return l
}

// slowly is the product of rows for which it is one of int64.
func slowly(t *testing.T, a, b []int64) []int64 {
	t.Helper()
	l, e := plain.Slowly(a, b)
	if e != api.OK || len(l) != len(a)+len(b)-1 {
		t.Fatalf("Slowly of %d and %d: %d numbers, %v", len(a), len(b), len(l), e)
	}
	return l
}

// sum is the row of the sums, place by place.
func sum(a, b []int64) []int64 {
	l := slices.Clone(a)
	for i, n := range b {
		l[i] += n
	}
	return l
}

// total is the sum of a row's numbers.
func total(l []int64) int64 {
	s := int64(0)
	for _, n := range l {
		s += n
	}
	return s
}

// shifted is the row with n noughts ahead.
func shifted(l []int64, n int) []int64 {
	return append(make([]int64, n), l...)
}

// lengths are pairs of lengths of rows.
var lengths = [][2]int{{1, 1}, {1, 2}, {2, 2}, {3, 2}, {1, 17}, {16, 17}, {17, 17}, {40, 3}, {100, 100}, {500, 524}, {1, 2000}, {1500, 548}}

// P12.3: what Times tells is what Slowly tells, at the greatest sizes that are not refused, too.
func TestBothWaysAlike(t *testing.T) {
	t.Parallel()
	for i, n := range lengths {
		r := rand.New(rand.NewSource(int64(i) + 1230))
		order := 0
		for 1<<order < n[0]+n[1]-1 {
			order++
		}
		most := mostBeside(t, order, 1)
		for _, size := range row(1, 2, 5, 1+r.Int63n(most), most) {
			other := mostBeside(t, order, size)
			if other == 0 {
				continue
			}
			for _, p := range [][2][]int64{
				{allOf(n[0], size), allOf(n[1], -other)},
				{allOf(n[0], other), allOf(n[1], size)},
				{drawn(r, n[0], size), drawn(r, n[1], other)},
			} {
				if !slices.Equal(times(t, p[0], p[1]), slowly(t, p[0], p[1])) {
					t.Errorf("%d and %d numbers of sizes %d and %d: Slowly tells another row", n[0], n[1], size, other)
				}
			}
		}
	}
	r := rand.New(rand.NewSource(1231))
	a, b := drawn(r, 9000, 2000), drawn(r, 7384, 1000)
	if !slices.Equal(times(t, a, b), slowly(t, a, b)) {
		t.Error("16384 numbers together: Slowly tells another row")
	}
}

// P12.3: products may be taken in either order; three rows' in any.
func TestEitherFirst(t *testing.T) {
	t.Parallel()
	for i, n := range lengths {
		r := rand.New(rand.NewSource(int64(i) + 1232))
		a, b, c := drawn(r, n[0], 90), drawn(r, n[1], 80), drawn(r, 3, 9)
		if !slices.Equal(times(t, a, b), times(t, b, a)) || !slices.Equal(times(t, times(t, a, b), c), times(t, a, times(t, b, c))) {
			t.Errorf("%v: Times tells another row", n)
		}
		a, b, c = drawn(r, n[0], 1<<30), drawn(r, n[1], 1<<18), drawn(r, 2, 4)
		if !slices.Equal(slowly(t, a, b), slowly(t, b, a)) || !slices.Equal(slowly(t, slowly(t, a, b), c), slowly(t, a, slowly(t, b, c))) {
			t.Errorf("%v: Slowly tells another row", n)
		}
	}
}

// P12.3: of sums the products are those of each, summed.
func TestOfSums(t *testing.T) {
	t.Parallel()
	for i, n := range lengths {
		r := rand.New(rand.NewSource(int64(i) + 1233))
		a, b, c := drawn(r, n[0], 900), drawn(r, n[0], 800), drawn(r, n[1], 2000)
		if !slices.Equal(times(t, sum(a, b), c), sum(times(t, a, c), times(t, b, c))) {
			t.Errorf("%v: Times of a sum is another row", n)
		}
		a, b, c = drawn(r, n[0], 1<<40), drawn(r, n[0], 1<<40), drawn(r, n[1], 1000)
		if !slices.Equal(slowly(t, c, sum(a, b)), sum(slowly(t, c, a), slowly(t, c, b))) {
			t.Errorf("%v: Slowly of a sum is another row", n)
		}
	}
}

// P12.3: the sum of a product's numbers is the product of both rows' sums.
func TestTotals(t *testing.T) {
	t.Parallel()
	for i, n := range append([][2]int{{8192, 8192}, {1, 16383}}, lengths...) {
		r := rand.New(rand.NewSource(int64(i) + 1234))
		a, b := drawn(r, n[0], 1000), drawn(r, n[1], 1000)
		if total(times(t, a, b)) != total(a)*total(b) {
			t.Errorf("%v: Times' numbers have another sum", n)
		}
		if total(times(t, a, a[:1])) != total(a)*a[0] {
			t.Errorf("%v: Times' numbers have another sum by one number", n)
		}
		if i < 2 {
			continue
		}
		a, b = drawn(r, n[0], 1<<21), drawn(r, n[1], 1<<19)
		if total(slowly(t, a, b)) != total(a)*total(b) {
			t.Errorf("%v: Slowly's numbers have another sum", n)
		}
	}
}

// P12.3: noughts ahead of a row stand ahead of the product.
func TestNoughtsAhead(t *testing.T) {
	t.Parallel()
	for i, n := range lengths {
		r := rand.New(rand.NewSource(int64(i) + 1235))
		a, b := drawn(r, n[0], 600), drawn(r, n[1], 500)
		far, slow := times(t, a, b), slowly(t, a, b)
		for _, z := range []int{1, 2, 3, 100} {
			holdRow(t, plain.Times, shifted(a, z), b, shifted(far, z), api.OK)
			holdRow(t, plain.Times, a, shifted(b, z), shifted(far, z), api.OK)
			holdRow(t, plain.Times, shifted(a, z), shifted(b, z), shifted(far, 2*z), api.OK)
			holdRow(t, plain.Slowly, shifted(a, z), b, shifted(slow, z), api.OK)
		}
	}
	holdTimes(t, shifted(row(3), 8191), shifted(row(-4), 8191), shifted(row(-12), 16382), api.OK)
}

// P12.3: rows of together at most 1024 numbers of sizes up to 2^14 are never refused, and are told exactly.
func TestThousandNeverRefused(t *testing.T) {
	t.Parallel()
	r := rand.New(rand.NewSource(1236))
	for _, n := range []int{1, 512, 1000} {
		first, second := sharpRows(r, n, 1<<14), sharpRows(r, 1024-n, 1<<14)
		for _, a := range first {
			for _, b := range second {
				holdRow(t, plain.Times, a, b, quickly(a, b), api.OK)
			}
		}
	}
	for range 100 {
		together := 2 + r.Intn(1023)
		n := 1 + r.Intn(together-1)
		a, b := strewn(r, n, 1<<14, -1<<14), allOf(together-n, 1<<14)
		holdRow(t, plain.Times, a, b, quickly(a, b), api.OK)
	}
	a := allOf(512, -1<<14)
	holdSquare(t, a, quickly(a, a), api.OK)
}
