package divide_test

import (
	"math/rand"
	"testing"

	"rosette/api"
	"rosette/divide"
	"rosette/limb"
	"rosette/recip"
	"rosette/times"
)

// told is what a call told that must not be refused; it must be right.
func told(t *testing.T, x api.Int, e api.Errno) api.Int {
	t.Helper()
	if e != api.OK || !limb.Right(x) {
		t.Fatalf("%s, %v", short(x), e)
	}
	return x
}

// floor is Floor's quotient and rest, which must be told.
func floor(t *testing.T, a, b api.Int) (api.Int, api.Int) {
	t.Helper()
	q, r, e := divide.Floor(a, b)
	return told(t, q, e), told(t, r, e)
}

// trunc is Trunc's quotient and rest, which must be told.
func trunc(t *testing.T, a, b api.Int) (api.Int, api.Int) {
	t.Helper()
	q, r, e := divide.Trunc(a, b)
	return told(t, q, e), told(t, r, e)
}

// mod is Mod's number, which must be told.
func mod(t *testing.T, a, m api.Int) api.Int {
	t.Helper()
	x, e := divide.Mod(a, m)
	return told(t, x, e)
}

func sum(t *testing.T, a, b api.Int) api.Int {
	t.Helper()
	x, e := limb.Add(a, b)
	return told(t, x, e)
}

func difference(t *testing.T, a, b api.Int) api.Int {
	t.Helper()
	x, e := limb.Sub(a, b)
	return told(t, x, e)
}

func product(t *testing.T, a, b api.Int) api.Int {
	t.Helper()
	x, e := times.Mul(a, b)
	return told(t, x, e)
}

// order is -1, 0 or 1, as the first is below, the same, above.
func order(t *testing.T, a, b api.Int) int {
	t.Helper()
	c, e := limb.Cmp(a, b)
	if e != api.OK {
		t.Fatalf("Cmp(%s, %s): %v", short(a), short(b), e)
	}
	return c
}

// pairs are numbers of all kinds, with divisors of all kinds and signs.
func pairs() [][2]api.Int {
	r := rand.New(rand.NewSource(1701))
	l := [][2]api.Int{}
	few := []api.Int{{}, plus(1), plus(2), plus(3), plus(1 << 63), plus(ones), plus(0, 1), plus(1, 1), plus(ones, 1), plus(ones, 1<<63), full(2), full(3), power(200)}
	for _, a := range few {
		for _, b := range few[1:] {
			l = append(l, [2]api.Int{a, b}, [2]api.Int{about(a), b}, [2]api.Int{a, about(b)}, [2]api.Int{about(a), about(b)})
		}
	}
	for range 600 {
		l = append(l, [2]api.Int{drawn(r, r.Intn(8)), drawn(r, 1+r.Intn(5))})
	}
	for _, n := range [][2]int{{300, 100}, {4096, 1}, {4096, 2}, {4095, 2047}, {4096, 2048}, {4096, 4095}, {4096, 4096}, {1, 4096}} {
		l = append(l, [2]api.Int{drawn(r, n[0]), drawn(r, n[1])})
	}
	return append(l, [2]api.Int{full(api.MaxLimbs), plus(1)}, [2]api.Int{full(api.MaxLimbs), less(1)})
}

// holdTogether holds a quotient and a rest against what they must be: a = q b + r, r being 0 or of a sign, and nearer to 0 than b.
func holdTogether(t *testing.T, a, b, q, r api.Int, neg bool) {
	t.Helper()
	if made(q, b, r).Cmp(valueOf(a)) != 0 {
		t.Errorf("%s over %s: %s and %s do not make it", short(a), short(b), short(q), short(r))
	}
	// Where a less Floor's rest is too long, so is the product.
	if off, e := limb.Sub(a, r); e == api.OK && !same(product(t, q, b), off) {
		t.Errorf("%s over %s: %s and %s do not make it", short(a), short(b), short(q), short(r))
	}
	if len(r.Mag) > 0 && r.Neg != neg {
		t.Errorf("%s over %s leaves %s", short(a), short(b), short(r))
	}
	if order(t, sizeOf(r), sizeOf(b)) >= 0 {
		t.Errorf("%s over %s leaves %s", short(a), short(b), short(r))
	}
}

// P17.1, P7: a = q b + r with r between, by the library's products and by the program's own.
func TestTogether(t *testing.T) {
	t.Parallel()
	for _, p := range pairs() {
		a, b := p[0], p[1]
		q, r := floor(t, a, b)
		holdTogether(t, a, b, q, r, b.Neg)
		q, r = trunc(t, a, b)
		holdTogether(t, a, b, q, r, a.Neg)
	}
}

// P17.4: a less the rest is divided without a rest, to the same quotient.
func TestWithoutTheRest(t *testing.T) {
	t.Parallel()
	for _, p := range pairs() {
		a, b := p[0], p[1]
		q, r := trunc(t, a, b)
		holdAll(t, difference(t, a, r), b, q, api.Int{})
		q, r = floor(t, a, b)
		if off, e := limb.Sub(a, r); e == api.OK {
			holdAll(t, off, b, q, api.Int{})
		}
	}
}

// P17.4: a b is divided by b without a rest, with the quotient a.
func TestOfProducts(t *testing.T) {
	t.Parallel()
	for _, p := range pairs() {
		a, b := p[0], p[1]
		if x, e := times.Mul(a, b); e == api.OK {
			holdAll(t, x, b, a, api.Int{})
		}
	}
}

// P17.4: Floor of -a and -b has the same quotient, and the rest turned about; Trunc of -a and b has both turned about.
func TestTurnedAbout(t *testing.T) {
	t.Parallel()
	for _, p := range pairs() {
		a, b := p[0], p[1]
		q, r := floor(t, a, b)
		holdFloor(t, about(a), about(b), q, about(r), api.OK)
		q, r = trunc(t, a, b)
		holdTrunc(t, about(a), b, about(q), about(r), api.OK)
		holdTrunc(t, a, about(b), about(q), r, api.OK)
	}
}

// P17.4: Mod of sums and products is that of the numbers' Mods.
func TestModOfSums(t *testing.T) {
	t.Parallel()
	r := rand.New(rand.NewSource(1702))
	for _, p := range pairs() {
		a, m := p[0], sizeOf(p[1])
		if len(a.Mag) == api.MaxLimbs || len(m.Mag) > 2000 {
			continue
		}
		b := drawn(r, r.Intn(6))
		x, y := mod(t, a, m), mod(t, b, m)
		holdMod(t, sum(t, a, b), m, mod(t, sum(t, x, y), m), api.OK)
		holdMod(t, difference(t, a, b), m, mod(t, difference(t, x, y), m), api.OK)
		if c, e := times.Mul(a, b); e == api.OK {
			holdMod(t, c, m, mod(t, product(t, x, y), m), api.OK)
		}
		holdMod(t, x, m, x, api.OK)
	}
}

// P17.3: Mod is from 0 on, below m, and differs from a by what m divides.
func TestModDiffers(t *testing.T) {
	t.Parallel()
	for _, p := range pairs() {
		a, m := p[0], sizeOf(p[1])
		x := mod(t, a, m)
		if x.Neg || order(t, x, m) >= 0 {
			t.Errorf("Mod(%s, %s): %s", short(a), short(m), short(x))
		}
		if off, e := limb.Sub(a, x); e == api.OK {
			if _, whole, e := divide.Exact(off, m); e != api.OK || !whole {
				t.Errorf("Mod(%s, %s): %s, which differs by no multiple", short(a), short(m), short(x))
			}
		}
	}
}

// P17.1, P7: a power of two over d is d's reciprocal of so many bits, and powers of two as divisors shift down.
func TestReciprocalsAndShifts(t *testing.T) {
	t.Parallel()
	for _, p := range pairs() {
		a, d := p[0], sizeOf(p[1])
		for _, bits := range []int{0, 1, 63, 64, 65, 500, 4000} {
			want, e := recip.Of(d, bits)
			q, _ := floor(t, power(bits), d)
			if !same(q, told(t, want, e)) {
				t.Errorf("2^%d over %s: %s; its reciprocal is %s", bits, short(d), short(q), short(want))
			}
			want, e = limb.Shift(a, -bits)
			q, _ = floor(t, a, power(bits))
			if !same(q, told(t, want, e)) {
				t.Errorf("%s over 2^%d: %s", short(a), bits, short(q))
			}
		}
	}
}

// P17.1: a quotient of quotients is that by the product of both divisors, above 0.
func TestQuotientOfQuotients(t *testing.T) {
	t.Parallel()
	r := rand.New(rand.NewSource(1703))
	for range 2000 {
		a, b, c := drawn(r, r.Intn(12)), sizeOf(drawn(r, 1+r.Intn(4))), sizeOf(drawn(r, 1+r.Intn(4)))
		q, _ := floor(t, a, b)
		q, _ = floor(t, q, c)
		once, _ := floor(t, a, product(t, b, c))
		if !same(q, once) {
			t.Errorf("%s over %s, over %s: %s, at once %s", short(a), short(b), short(c), short(q), short(once))
		}
	}
}
