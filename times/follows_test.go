package times_test

import (
	"math/rand"
	"testing"

	"rosette/api"
	"rosette/limb"
	"rosette/times"
)

// told is what a call told that must not be refused; it must be right.
func told(t *testing.T, x api.Int, e api.Errno) api.Int {
	t.Helper()
	if e != api.OK || !limb.Right(x) {
		t.Fatalf("%s, %v", short(x), e)
	}
	return x
}

// product is Mul's, which must be told.
func product(t *testing.T, a, b api.Int) api.Int {
	t.Helper()
	x, e := times.Mul(a, b)
	return told(t, x, e)
}

func sum(t *testing.T, a, b api.Int) api.Int {
	t.Helper()
	x, e := limb.Add(a, b)
	return told(t, x, e)
}

func difference(t *testing.T, a, b api.Int) api.Int {
	t.Helper()
	x, e := limb.Sub(a, b)
	return told(t, x, e)
}

// triples are numbers of all kinds, three at a time, no product of which is too long.
func triples() [][3]api.Int {
	r := rand.New(rand.NewSource(1501))
	l := [][3]api.Int{}
	few := []api.Int{{}, plus(1), less(1), plus(2), less(ones), plus(0, 1), less(1, 1), full(3), about(power(200))}
	for _, a := range few {
		for _, b := range few {
			for _, c := range few {
				l = append(l, [3]api.Int{a, b, c})
			}
		}
	}
	for range 200 {
		l = append(l, [3]api.Int{drawn(r, r.Intn(8)), drawn(r, r.Intn(8)), drawn(r, r.Intn(8))})
	}
	for range 100 {
		l = append(l, [3]api.Int{drawn(r, r.Intn(120)), drawn(r, r.Intn(120)), drawn(r, r.Intn(120))})
	}
	for _, n := range [][3]int{{1365, 1365, 1365}, {2000, 2000, 95}, {1, 4000, 94}} {
		l = append(l, [3]api.Int{drawn(r, n[0]), drawn(r, n[1]), drawn(r, n[2])})
	}
	return l
}

// short3 tells three numbers.
func short3(x [3]api.Int) string { return short(x[0]) + ", " + short(x[1]) + ", " + short(x[2]) }

// P15.4, P6: all ways tell the same product, either factor first.
func TestWaysTellTheSame(t *testing.T) {
	t.Parallel()
	for _, x := range triples() {
		a, b := x[0], x[1]
		want := product(t, a, b)
		holdExact(t, a, b, want, api.OK)
		if len(a.Mag)+len(b.Mag) < 60 {
			holdWheel(t, a, b, want, api.OK)
		}
	}
}

// P15.4, P6: products in either order and grouping, by every way that is quick enough.
func TestOrderAndGrouping(t *testing.T) {
	t.Parallel()
	for _, x := range triples() {
		a, b, c := x[0], x[1], x[2]
		want := product(t, product(t, a, b), c)
		for _, w := range exact {
			by := func(a, b api.Int) api.Int {
				x, e := w.call(a, b)
				return told(t, x, e)
			}
			for _, other := range []api.Int{by(a, by(b, c)), by(by(a, b), c), by(by(c, a), b), by(b, by(c, a)), by(c, by(b, a))} {
				if !same(other, want) {
					t.Fatalf("%s of %s: %s and %s", w.name, short3(x), short(want), short(other))
				}
			}
		}
	}
}

// P15.4, P6: products of sums and of differences, one by one; signs go out of products.
func TestSumsOneByOne(t *testing.T) {
	t.Parallel()
	for _, x := range triples() {
		a, b, c := x[0], x[1], x[2]
		ac, bc := product(t, a, c), product(t, b, c)
		for _, w := range exact {
			by := func(a, b api.Int) api.Int {
				x, e := w.call(a, b)
				return told(t, x, e)
			}
			if !same(by(sum(t, a, b), c), sum(t, ac, bc)) || !same(by(difference(t, a, b), c), difference(t, ac, bc)) || !same(by(about(a), c), about(ac)) || !same(by(about(a), about(c)), ac) {
				t.Fatalf("%s of %s: of sums", w.name, short3(x))
			}
		}
	}
}

// P15.4: Wheel's products, too, in either grouping and of sums.
func TestWheelFollows(t *testing.T) {
	t.Parallel()
	by := func(a, b api.Int) api.Int {
		x, e := times.Wheel(a, b)
		return told(t, x, e)
	}
	r := rand.New(rand.NewSource(1502))
	for range 60 {
		a, b, c := drawn(r, r.Intn(20)), drawn(r, r.Intn(20)), drawn(r, r.Intn(20))
		if !same(by(by(a, b), c), by(a, by(c, b))) || !same(by(sum(t, a, b), c), sum(t, by(a, c), by(c, b))) {
			t.Fatalf("Wheel of %s", short3([3]api.Int{a, b, c}))
		}
	}
}

// P15.4: a to the power m + n is the product of both powers; to the power m n the power n of the power m.
func TestPowersPutTogether(t *testing.T) {
	t.Parallel()
	to := func(a api.Int, n int) api.Int {
		x, e := times.Power(a, n)
		return told(t, x, e)
	}
	r := rand.New(rand.NewSource(1503))
	for _, x := range triples()[:900] {
		a, m, n := x[0], r.Intn(12), r.Intn(12)
		if !same(to(a, m+n), product(t, to(a, m), to(a, n))) {
			t.Fatalf("%s to the power %d + %d", short(a), m, n)
		}
		if m*n <= 20 && !same(to(a, m*n), to(to(a, m), n)) {
			t.Fatalf("%s to the power %d times %d", short(a), m, n)
		}
		if b := x[1]; !same(to(product(t, a, b), m), product(t, to(a, m), to(b, m))) {
			t.Fatalf("%s and %s, to the power %d", short(a), short(b), m)
		}
	}
	for _, a := range []api.Int{plus(3), less(7), less(ones), plus(1, 1)} {
		for range 5 {
			m, n := r.Intn(1000), r.Intn(1000)
			if !same(to(a, m+n), product(t, to(a, m), to(a, n))) {
				t.Fatalf("%s to the power %d + %d", short(a), m, n)
			}
		}
	}
}

// P15.4: a square is never below 0, and is 0 for 0 alone.
func TestSquaresNotBelowNought(t *testing.T) {
	for _, x := range triples() {
		for _, a := range x {
			if len(a.Mag) > 2048 {
				continue
			}
			square, e := times.Square(a)
			told(t, square, e)
			if square.Neg || (len(square.Mag) == 0) != (len(a.Mag) == 0) || !same(square, product(t, about(a), about(a))) {
				t.Fatalf("the square of %s: %s", short(a), short(square))
			}
		}
	}
}
