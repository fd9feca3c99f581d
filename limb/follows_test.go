package limb_test

import (
	"math/rand"
	"slices"
	"testing"

	"rosette/api"
	"rosette/limb"
)

// number is what a call told that must not be refused; it must be right.
func number(t *testing.T, x api.Int, e api.Errno) api.Int {
	t.Helper()
	if e != api.OK || !limb.Right(x) {
		t.Fatalf("%v, %v", short(x), e)
	}
	return x
}

func add(t *testing.T, a, b api.Int) api.Int {
	t.Helper()
	x, e := limb.Add(a, b)
	return number(t, x, e)
}

func sub(t *testing.T, a, b api.Int) api.Int {
	t.Helper()
	x, e := limb.Sub(a, b)
	return number(t, x, e)
}

func neg(t *testing.T, a api.Int) api.Int {
	t.Helper()
	x, e := limb.Neg(a)
	return number(t, x, e)
}

func shift(t *testing.T, a api.Int, by int) api.Int {
	t.Helper()
	x, e := limb.Shift(a, by)
	return number(t, x, e)
}

func cmp(t *testing.T, a, b api.Int) int {
	t.Helper()
	n, e := limb.Cmp(a, b)
	if e != api.OK {
		t.Fatal(e)
	}
	return n
}

// triples are numbers of all kinds, three at a time, no sum of which is too long.
func triples() [][3]api.Int {
	r := rand.New(rand.NewSource(136))
	l := [][3]api.Int{}
	few := []api.Int{{}, plus(1), less(1), plus(most), less(most), plus(0, 1), less(0, 1), full(3), about(full(3)), power(200)}
	for _, a := range few {
		for _, b := range few {
			for _, c := range few {
				l = append(l, [3]api.Int{a, b, c})
			}
		}
	}
	for range 2000 {
		l = append(l, [3]api.Int{drawn(r, 5), drawn(r, 5), drawn(r, 5)})
	}
	for range 10 {
		l = append(l, [3]api.Int{drawn(r, 4095), drawn(r, 4095), drawn(r, 4095)})
	}
	return l
}

// P13.6: sums in any order and grouping; what was put to is taken off again.
func TestOrderAndGrouping(t *testing.T) {
	for _, x := range triples() {
		a, b, c := x[0], x[1], x[2]
		all := add(t, add(t, a, b), c)
		for _, other := range []api.Int{
			add(t, a, add(t, b, c)), add(t, add(t, c, b), a), add(t, add(t, a, c), b), add(t, b, add(t, c, a)),
			sub(t, a, sub(t, neg(t, b), c)), sub(t, c, neg(t, add(t, b, a))),
		} {
			if !same(other, all) {
				t.Fatalf("%v: %v and %v", x, short(all), short(other))
			}
		}
		for _, first := range []api.Int{
			sub(t, add(t, a, b), b), add(t, sub(t, a, b), b), sub(t, sub(t, all, c), b), sub(t, all, add(t, b, c)), sub(t, b, sub(t, b, a)), neg(t, neg(t, a)),
		} {
			if !same(first, a) {
				t.Fatalf("%v: %v is not the first again", x, short(first))
			}
		}
		if !same(sub(t, a, b), neg(t, sub(t, b, a))) || !same(neg(t, a), sub(t, api.Int{}, a)) || len(add(t, a, neg(t, a)).Mag) != 0 {
			t.Fatalf("%v: turned about", x)
		}
	}
}

// P13.6: Cmp is that of the difference and 0, and orders all numbers.
func TestCmpOfDifference(t *testing.T) {
	for _, x := range triples() {
		a, b, c := x[0], x[1], x[2]
		side := cmp(t, a, b)
		if side != cmp(t, sub(t, a, b), api.Int{}) || side != -cmp(t, b, a) || side != cmp(t, neg(t, b), neg(t, a)) || side != cmp(t, add(t, a, c), add(t, b, c)) {
			t.Fatalf("%v: %d", x, side)
		}
		if (side == 0) != same(a, b) || side <= 0 && cmp(t, b, c) <= 0 && cmp(t, a, c) > 0 {
			t.Fatalf("%v: %d", x, side)
		}
	}
	l := rights()
	slices.SortFunc(l, func(a, b api.Int) int { return cmp(t, a, b) })
	for i := range len(l) - 1 {
		if valueOf(l[i]).Cmp(valueOf(l[i+1])) > 0 {
			t.Errorf("sorted: %v ahead of %v", short(l[i]), short(l[i+1]))
		}
	}
}

// steps are powers by which numbers of some limbs are shifted.
var steps = []int{0, 1, 7, 63, 64, 65, 127, 128, 200, 256, 257, 320, 1000, 6400}

// P13.6: up and back is x; shifts up may be parted; one up is the double.
func TestUpAndBack(t *testing.T) {
	for _, x := range triples()[:2500] {
		a := x[0]
		for _, n := range steps {
			up := shift(t, a, n)
			if !same(shift(t, up, -n), a) || !same(shift(t, shift(t, a, 5), n), shift(t, up, 5)) {
				t.Fatalf("%v by %d: %v", a, n, short(up))
			}
		}
		if !same(shift(t, a, 1), add(t, a, a)) || !same(shift(t, a, 0), a) {
			t.Fatalf("%v: the double", a)
		}
	}
	for _, x := range rights() {
		n, _ := limb.Bits(x)
		for _, by := range []int{0, 1, 64, maxBits / 2, maxBits - n} {
			if n+by <= maxBits && !same(shift(t, shift(t, x, by), -by), x) {
				t.Errorf("%v by %d", short(x), by)
			}
		}
	}
}

// P13.6: down by n is the greatest q with q 2^n at most x.
func TestDownIsGreatest(t *testing.T) {
	for _, x := range triples() {
		a := x[0]
		for _, n := range steps {
			q := shift(t, a, -n)
			next := add(t, q, plus(1))
			bits, _ := limb.Bits(next)
			if bits+n > maxBits {
				continue
			}
			if cmp(t, shift(t, q, n), a) > 0 || cmp(t, shift(t, next, n), a) <= 0 {
				t.Fatalf("%v down by %d: %v", short(a), n, short(q))
			}
			if !same(shift(t, shift(t, a, -n), -9), shift(t, a, -n-9)) {
				t.Fatalf("%v down by %d, and by 9 more", short(a), n)
			}
		}
	}
}

// P13.6: Bits is the least n for which the size is below 2^n.
func TestBitsIsLeast(t *testing.T) {
	l := rights()
	for _, x := range triples() {
		l = append(l, x[0])
	}
	for _, x := range l {
		n, e := limb.Bits(x)
		if e != api.OK {
			t.Fatal(e)
		}
		size := plus(x.Mag...)
		// 2^262144 is too long, and every right number is below it.
		if n < maxBits && cmp(t, size, power(n)) >= 0 {
			t.Fatalf("%v: not below 2^%d", short(x), n)
		}
		if n > 0 && cmp(t, size, power(n-1)) < 0 {
			t.Fatalf("%v: below 2^%d", short(x), n-1)
		}
		if n > maxBits || n < 0 {
			t.Fatalf("%v: %d bits", short(x), n)
		}
	}
}
