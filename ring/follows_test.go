package ring_test

import (
	"math/rand"
	"slices"
	"testing"

	"rosette/api"
	"rosette/ring"
)

// cyclic is the round product of rows whose bound is below 1/4.
func cyclic(t *testing.T, a, b []int64) []int64 {
	t.Helper()
	l, e := ring.Cyclic(a, b)
	if e != api.OK || len(l) != len(a) {
		t.Fatalf("Cyclic of %d: %d numbers, %v", len(a), len(l), e)
	}
	return l
}

// plainly is the round product of rows for which it is one of int64.
func plainly(t *testing.T, a, b []int64) []int64 {
	t.Helper()
	l, e := ring.Plainly(a, b)
	if e != api.OK || len(l) != len(a) {
		t.Fatalf("Plainly of %d: %d numbers, %v", len(a), len(l), e)
	}
	return l
}

// round is the row turned round by a place: the last number comes first.
func round(l []int64) []int64 {
	last := len(l) - 1
	return append(row(l[last]), l[:last]...)
}

// sum is the row of the sums, place by place.
func sum(a, b []int64) []int64 {
	l := slices.Clone(a)
	for i, n := range b {
		l[i] += n
	}
	return l
}

// P11.4: where Cyclic tells a row Plainly tells the same, and its numbers are of sizes below 2^47.
func TestBothWaysAlike(t *testing.T) {
	for order := range 12 {
		r := rand.New(rand.NewSource(int64(order) + 1140))
		most := mostBeside(t, order, 1)
		for _, size := range row(1, 2, 5, 1+r.Int63n(most), most) {
			other := mostBeside(t, order, size)
			if other == 0 {
				continue
			}
			for _, p := range [][2][]int64{
				{allOf(order, size), allOf(order, -other)},
				{allOf(order, other), allOf(order, size)},
				{drawn(r, order, size), drawn(r, order, other)},
			} {
				l := cyclic(t, p[0], p[1])
				if !slices.Equal(l, plainly(t, p[0], p[1])) {
					t.Errorf("order %d, sizes %d and %d: Plainly tells another row", order, size, other)
				}
				if greatest(l) >= 1<<47 {
					t.Errorf("order %d, sizes %d and %d: a number of the size %d", order, size, other, greatest(l))
				}
			}
		}
	}
}

// P11.4: which row is which is all one, to all three calls.
func TestEitherFirst(t *testing.T) {
	for order := range api.MaxOrder + 1 {
		r := rand.New(rand.NewSource(int64(order) + 1141))
		a, b := drawn(r, order, 3), drawn(r, order, mostBeside(t, order, 3))
		if !slices.Equal(cyclic(t, a, b), cyclic(t, b, a)) {
			t.Errorf("order %d: Cyclic tells another row", order)
		}
		if order > 10 {
			continue
		}
		a, b = drawn(r, order, 1<<20), drawn(r, order, 1<<32)
		if !slices.Equal(plainly(t, a, b), plainly(t, b, a)) {
			t.Errorf("order %d: Plainly tells another row", order)
		}
	}
	// Rows that are refused are so either way.
	for _, p := range [][2][]int64{{row(1), row(1, 2)}, {row(1<<53 + 1), row(3)}, {row(1 << 52), row(3)}} {
		_, e := ring.Cyclic(p[0], p[1])
		if _, f := ring.Cyclic(p[1], p[0]); e == api.OK || e != f {
			t.Error(p, e, f)
		}
	}
}

// P11.4: with one row turned round by a place so is the product.
func TestTurnedRound(t *testing.T) {
	for order := range api.MaxOrder + 1 {
		r := rand.New(rand.NewSource(int64(order) + 1142))
		a, b := drawn(r, order, 60), drawn(r, order, 70)
		want := round(cyclic(t, a, b))
		if !slices.Equal(cyclic(t, round(a), b), want) || !slices.Equal(cyclic(t, a, round(b)), want) {
			t.Errorf("order %d: Cyclic is not turned so", order)
		}
		if order > 10 {
			continue
		}
		a, b = drawn(r, order, 1<<25), drawn(r, order, 1<<27)
		want = round(plainly(t, a, b))
		if !slices.Equal(plainly(t, round(a), b), want) || !slices.Equal(plainly(t, a, round(b)), want) {
			t.Errorf("order %d: Plainly is not turned so", order)
		}
	}
}

// P11.4: of sums it is the sum.
func TestOfSums(t *testing.T) {
	for order := range api.MaxOrder + 1 {
		r := rand.New(rand.NewSource(int64(order) + 1143))
		a, b, c := drawn(r, order, 900), drawn(r, order, 800), drawn(r, order, 2000)
		want := sum(cyclic(t, a, c), cyclic(t, b, c))
		if !slices.Equal(cyclic(t, sum(a, b), c), want) || !slices.Equal(cyclic(t, c, sum(a, b)), want) {
			t.Errorf("order %d: Cyclic of a sum is another row", order)
		}
		if order > 10 {
			continue
		}
		a, b, c = drawn(r, order, 1<<40), drawn(r, order, 1<<40), drawn(r, order, 1000)
		if !slices.Equal(plainly(t, sum(a, b), c), sum(plainly(t, a, c), plainly(t, b, c))) {
			t.Errorf("order %d: Plainly of a sum is another row", order)
		}
	}
}

// P11.4: 1, 0, 0, .. leaves a row as it is.
func TestByOne(t *testing.T) {
	for order := range api.MaxOrder + 1 {
		r := rand.New(rand.NewSource(int64(order) + 1144))
		a, unit := drawn(r, order, mostBeside(t, order, 1)), one(order, 0, 1)
		if !slices.Equal(cyclic(t, a, unit), a) || !slices.Equal(cyclic(t, unit, a), a) {
			t.Errorf("order %d: Cyclic tells another row", order)
		}
		if order > 11 {
			continue
		}
		a = strewn(r, order, great, least, 0, -1, 1<<53+1)
		if !slices.Equal(plainly(t, a, unit), a) || !slices.Equal(plainly(t, unit, a), a) {
			t.Errorf("order %d: Plainly tells another row", order)
		}
	}
}

// P11.4, P4: rows of the order 10 of sizes of at most 2^14 are never refused, and are told exactly.
func TestTenNeverRefused(t *testing.T) {
	r := rand.New(rand.NewSource(1145))
	rows := sharpRows(r, 10, 1<<14)
	for _, a := range rows {
		for _, b := range rows {
			holdCyclic(t, a, b, quickly(a, b), api.OK)
		}
	}
	holdCyclic(t, rows[1], allOf(10, -1<<14), allOf(10, -1<<38), api.OK)
}

// P11.4: rows of noughts are never refused beside numbers of sizes up to 2^53.
func TestNoughts(t *testing.T) {
	for order := range api.MaxOrder + 1 {
		r := rand.New(rand.NewSource(int64(order) + 1146))
		zeros := make([]int64, 1<<order)
		for _, b := range [][]int64{zeros, drawn(r, order, mostSize), strewn(r, order, mostSize, -mostSize)} {
			holdCyclic(t, zeros, b, zeros, api.OK)
			holdCyclic(t, b, zeros, zeros, api.OK)
		}
		if order < 12 {
			holdPlainly(t, zeros, strewn(r, order, least, great), zeros, api.OK)
			holdPlainly(t, strewn(r, order, least, great), zeros, zeros, api.OK)
		}
	}
}
