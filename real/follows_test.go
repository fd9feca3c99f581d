package real_test

import (
	"math"
	"math/big"
	"math/rand"
	"slices"
	"testing"

	"rosette/api"
	"rosette/fault"
	"rosette/parts"
	reals "rosette/real"
)

// P10.5: Forward of any reals is Even, what is not finite too.
func TestForwardIsEven(t *testing.T) {
	for order := range api.MaxOrder + 1 {
		for kind, a := range rows(order) {
			if !reals.Even(forward(t, a)) {
				t.Errorf("order %d, row %d: not even", order, kind)
			}
		}
	}
}

// P10.5: so it is with an infinity or a NaN at any place, alone or beside another.
func TestForwardIsEvenAnywhere(t *testing.T) {
	r := rand.New(rand.NewSource(105))
	wild := []float64{inf, -inf, nan, great, minus}
	for order := range 6 {
		for i := range 1 << order {
			for j := range 1 << order {
				for _, x := range wild {
					a := mixed(r, order, -3, 3)
					a[i], a[j] = wild[r.Intn(len(wild))], x
					if !reals.Even(forward(t, a)) {
						t.Errorf("Forward of %v is not even", a)
					}
				}
			}
		}
	}
}

// P10.5: both rows of Both are Even.
func TestBothAreEven(t *testing.T) {
	for order := range api.MaxOrder + 1 {
		for kind, p := range pairs(order) {
			y, z := both(t, p[0], p[1])
			if !reals.Even(y) || !reals.Even(z) {
				t.Errorf("order %d, rows %d: %v, %v", order, kind, reals.Even(y), reals.Even(z))
			}
		}
	}
}

// bounded are rows of reals of the order, of sizes of at most 2^900.
func bounded(order int) [][]float64 {
	r := rand.New(rand.NewSource(int64(order) + 1050))
	return [][]float64{
		mixed(r, order, -3, 3),
		mixed(r, order, -1074, 899),
		mixed(r, order, 880, 900),
		mixed(r, order, -1074, -1070),
		strewn(r, order, least, -least, 3*least, leastFull-least, 0, minus),
		strewn(r, order, 0x1p900),
		strewn(r, order, 0x1p900, -0x1p900, 1),
		strewn(r, order, 0.1, -1/3.0),
		strewn(r, order, -2, -1, 0, 1, 2),
		strewn(r, order, 0, minus),
		one(order, 1<<order-1, -0.7),
	}
}

// P10.5: of a row and noughts, of either sign, Both tells what Forward does, then noughts.
func TestBothWithNoughts(t *testing.T) {
	r := rand.New(rand.NewSource(1055))
	for order := range api.MaxOrder + 1 {
		zeros := make([]complex128, 1<<order)
		for kind, a := range bounded(order) {
			y := forward(t, a)
			for _, b := range [][]float64{make([]float64, len(a)), strewn(r, order, minus), strewn(r, order, 0, minus)} {
				first, second := both(t, a, b)
				if i := firstNot(parts.Like, first, y); i >= 0 {
					t.Errorf("order %d, row %d: not what Forward tells at %d", order, kind, i)
				}
				if i := firstNot(parts.Like, second, zeros); i >= 0 {
					t.Errorf("order %d, row %d: no nought at %d", order, kind, i)
				}
			}
		}
	}
}

// greatest is the greatest size in a list.
func greatest(a []float64) float64 {
	most := 0.0
	for _, x := range a {
		most = max(most, math.Abs(x))
	}
	return most
}

// bound is fault's of transforms of rows as long, of that size.
func bound(t *testing.T, n int, most float64) float64 {
	t.Helper()
	order := 0
	for 1<<order < n {
		order++
	}
	far, e := fault.Turn(order, most)
	if e != api.OK {
		t.Fatal(n, most, e)
	}
	return far
}

// within tells whether the reals are, exactly, no further apart than that.
func within(x, y, far float64) bool {
	exact := func(x float64) *big.Float { return new(big.Float).SetPrec(2200).SetFloat64(x) }
	gap := exact(x)
	gap.Sub(gap, exact(y))
	return gap.Abs(gap).Cmp(exact(far)) <= 0
}

// P10.5: Back of Forward lies within fault.Turn's bound of the row.
func TestThereAndBack(t *testing.T) {
	for order := range api.MaxOrder + 1 {
		for kind, a := range bounded(order) {
			far := bound(t, len(a), greatest(a))
			x := back(t, forward(t, a))
			for m := range a {
				if !within(x[m], a[m], far) {
					t.Errorf("order %d, row %d: too far off at %d: %g of %g", order, kind, m, x[m], a[m])
					break
				}
			}
		}
	}
}

// P10.5, P5: of whole numbers the nearest ones are the row again, where the bound is below 1/4.
func TestWholeThereAndBack(t *testing.T) {
	r := rand.New(rand.NewSource(1058))
	for order := range api.MaxOrder + 1 {
		a := mixed(r, order, 0, 28)
		for m := range a {
			a[m] = math.Round(a[m])
		}
		if far := bound(t, len(a), greatest(a)); far >= 0.25 {
			t.Fatalf("order %d: the bound is %g", order, far)
		}
		x := back(t, forward(t, a))
		for m := range x {
			x[m] = math.Round(x[m])
		}
		if !slices.Equal(x, a) {
			t.Errorf("order %d: another row", order)
		}
	}
}

// P10.2: the two rows of Both are the transforms of either row: each is as near to what Forward tells of it as both bounds let it be.
func TestBothAreTransforms(t *testing.T) {
	near := func(a, b []complex128, far float64) bool {
		return firstNot(func(p, q complex128) bool { return parts.Size(parts.Sub(p, q)) <= far }, a, b) < 0
	}
	r := rand.New(rand.NewSource(1059))
	for order := range api.MaxOrder + 1 {
		a, b := mixed(r, order, -3, 3), mixed(r, order, -3, 3)
		far := 4 * bound(t, len(a), greatest(a)+greatest(b))
		y, z := both(t, a, b)
		if !near(y, forward(t, a), far) || !near(z, forward(t, b), far) {
			t.Errorf("order %d: no transforms", order)
		}
		if order > 0 && near(y, forward(t, b), far) {
			t.Errorf("order %d: the bound does not tell the rows apart", order)
		}
	}
}
