package power_test

import (
	"math/rand"
	"testing"

	"rosette/api"
	"rosette/divide"
	"rosette/gcd"
	"rosette/limb"
	"rosette/power"
	"rosette/times"
)

// told is what a call told that must not be refused; it must be right.
func told(t *testing.T, x api.Int, e api.Errno) api.Int {
	t.Helper()
	if e != api.OK || !limb.Right(x) {
		t.Fatalf("%s, %v", short(x), e)
	}
	return x
}

// raised is Mod's answer, which must be told.
func raised(t *testing.T, a, e, m api.Int) api.Int {
	t.Helper()
	x, f := power.Mod(a, e, m)
	return told(t, x, f)
}

// symbolOf is Symbol's answer, which must be told.
func symbolOf(t *testing.T, a, m api.Int) int {
	t.Helper()
	s, e := power.Symbol(a, m)
	if e != api.OK || s < -1 || s > 1 {
		t.Fatalf("Symbol(%s, %s): %d, %v", short(a), short(m), s, e)
	}
	return s
}

func sum(t *testing.T, a, b api.Int) api.Int {
	t.Helper()
	x, e := limb.Add(a, b)
	return told(t, x, e)
}

func multiplied(t *testing.T, a, b api.Int) api.Int {
	t.Helper()
	x, e := times.Mul(a, b)
	return told(t, x, e)
}

// rest is a modulo m.
func rest(t *testing.T, a, m api.Int) api.Int {
	t.Helper()
	x, e := divide.Mod(a, m)
	return told(t, x, e)
}

// haveNoDivisor tells whether two numbers have no common divisor.
func haveNoDivisor(t *testing.T, a, b api.Int) bool {
	t.Helper()
	g, e := gcd.Of(a, b)
	return same(told(t, g, e), plus(1))
}

// pairs are numbers of all kinds, and moduli, many of which have no common divisor.
func pairs() [][2]api.Int {
	r := rand.New(rand.NewSource(2101))
	l := [][2]api.Int{}
	for _, m := range []api.Int{plus(1), plus(2), plus(3), plus(9), plus(15), plus(64), plus(ones), plus(1 << 63), plus(1, 1), two(100), full(3)} {
		for _, a := range []api.Int{{}, plus(1), less(1), plus(2), less(3), m, about(m), more(m, 1), plus(ones), less(1, 1), full(5)} {
			l = append(l, [2]api.Int{a, m})
		}
	}
	for range 400 {
		l = append(l, [2]api.Int{drawn(r, r.Intn(6)), sizeOf(drawn(r, 1+r.Intn(4)))}, [2]api.Int{drawn(r, 1+r.Intn(6)), odd(r, 1+r.Intn(4))})
	}
	return append(l, [2]api.Int{drawn(r, 60), odd(r, 50)}, [2]api.Int{drawn(r, 9), two(2500)})
}

// P9, P21.1: all answers are from 0 to m - 1, and those of all numbers that are alike modulo m are one.
func TestAlike(t *testing.T) {
	t.Parallel()
	r := rand.New(rand.NewSource(2102))
	for _, p := range pairs() {
		a, m := p[0], p[1]
		far := sum(t, a, multiplied(t, m, drawn(r, r.Intn(3))))
		for _, e := range []api.Int{{}, plus(1), plus(2), drawn(r, 1), sizeOf(drawn(r, 1))} {
			x, f := power.Mod(a, e, m)
			if below, _ := limb.Cmp(x, m); x.Neg || below >= 0 || f != api.OK && (f != api.ErrPower || !e.Neg) {
				t.Errorf("Mod(%s, %s, %s): %s, %v", short(a), short(e), short(m), short(x), f)
			}
			holdMod(t, far, e, m, x, f)
		}
		holdMod(t, a, plus(1), m, rest(t, a, m), api.OK)
		x, f := power.Inverse(a, m)
		holdInverse(t, far, m, x, f)
		holdMod(t, far, less(1), m, x, f)
	}
}

// P21.5, P9: to the power e + f it is the product of both powers modulo m, and to the power e f a power of a power; e and f below 0 too, where there is an inverse.
func TestPowersOfSums(t *testing.T) {
	t.Parallel()
	r := rand.New(rand.NewSource(2103))
	for _, p := range pairs() {
		a, m := p[0], p[1]
		for range 4 {
			e, f := drawn(r, r.Intn(2)), drawn(r, r.Intn(3))
			if !haveNoDivisor(t, a, m) {
				e, f = sizeOf(e), sizeOf(f)
			}
			both := multiplied(t, raised(t, a, e, m), raised(t, a, f, m))
			holdMod(t, a, sum(t, e, f), m, rest(t, both, m), api.OK)
			holdMod(t, raised(t, a, e, m), f, m, raised(t, a, multiplied(t, e, f), m), api.OK)
		}
	}
}

// P21.5: the power of a product is the product of the powers.
func TestPowersOfProducts(t *testing.T) {
	t.Parallel()
	r := rand.New(rand.NewSource(2104))
	for _, p := range pairs() {
		a, m := p[0], p[1]
		b, e := drawn(r, r.Intn(4)), sizeOf(drawn(r, r.Intn(2)))
		both := multiplied(t, raised(t, a, e, m), raised(t, b, e, m))
		holdMod(t, multiplied(t, a, b), e, m, rest(t, both, m), api.OK)
	}
}

// P21.5, P9: a times its inverse is alike 1; the inverse's inverse is a modulo m; there is none just where there is a common divisor above 1.
func TestTimesInverse(t *testing.T) {
	t.Parallel()
	met := map[api.Errno]int{}
	for _, p := range pairs() {
		a, m := p[0], p[1]
		x, e := power.Inverse(a, m)
		met[e]++
		if !haveNoDivisor(t, a, m) {
			holdInverse(t, a, m, api.Int{}, api.ErrPower)
			continue
		}
		told(t, x, e)
		if !same(rest(t, multiplied(t, a, x), m), rest(t, plus(1), m)) || !same(x, rest(t, x, m)) {
			t.Errorf("Inverse(%s, %s): %s", short(a), short(m), short(x))
		}
		holdInverse(t, x, m, rest(t, a, m), api.OK)
	}
	if len(met) != 2 || met[api.OK] < 200 || met[api.ErrPower] < 200 {
		t.Errorf("not both were met: %v", met)
	}
}

// P21.5: modulo m of many limbs, whose products are made of halves: to the power e + f, by inverses, and of products.
func TestLongRounds(t *testing.T) {
	t.Parallel()
	r := rand.New(rand.NewSource(2105))
	for _, limbs := range []int{2049, 3333, api.MaxLimbs} {
		m := odd(r, limbs)
		a := drawn(r, 40)
		x, e := power.Inverse(a, m)
		if e == api.ErrPower {
			continue
		}
		told(t, x, e)
		for _, k := range []int64{1, 2, 5} {
			holdMod(t, x, small(-k), m, raised(t, a, small(k), m), api.OK)
			holdMod(t, raised(t, a, small(7), m), small(-k), m, raised(t, a, small(-7*k), m), api.OK)
			holdMod(t, raised(t, x, small(k), m), small(k), m, raised(t, a, small(-k*k), m), api.OK)
		}
	}
}

// P21.5: Symbol is that of a modulo m; of a product it is the product, above and below; it is 0 just where there is a common divisor above 1.
func TestSymbolsOfProducts(t *testing.T) {
	t.Parallel()
	r := rand.New(rand.NewSource(2106))
	for _, p := range pairs() {
		a, m := p[0], p[1]
		if m.Mag[0]%2 == 0 {
			holdSymbol(t, a, m, 0, api.ErrArg)
			continue
		}
		s := symbolOf(t, a, m)
		if (s == 0) == haveNoDivisor(t, a, m) {
			t.Errorf("Symbol(%s, %s): %d", short(a), short(m), s)
		}
		holdSymbol(t, rest(t, a, m), m, s, api.OK)
		holdSymbol(t, sum(t, a, multiplied(t, m, drawn(r, r.Intn(3)))), m, s, api.OK)
		for range 4 {
			b, n := drawn(r, r.Intn(4)), odd(r, 1+r.Intn(3))
			holdSymbol(t, multiplied(t, a, b), m, s*symbolOf(t, b, m), api.OK)
			holdSymbol(t, a, multiplied(t, m, n), s*symbolOf(t, a, n), api.OK)
		}
		holdSymbol(t, multiplied(t, a, a), m, s*s, api.OK)
		holdSymbol(t, a, multiplied(t, m, m), s*s, api.OK)
	}
}

// P21.5: over a prime, Symbol is alike the power by half of what is one less.
func TestSymbolsByPowers(t *testing.T) {
	t.Parallel()
	r := rand.New(rand.NewSource(2107))
	for _, p := range []api.Int{plus(3), plus(5), plus(7), plus(65537), plus(ones - 58), more(two(61), -1), more(two(127), -1), more(two(255), -19), more(two(521), -1)} {
		half, e := limb.Shift(p, -1)
		told(t, half, e)
		for range 60 {
			a := drawn(r, r.Intn(9))
			holdMod(t, a, half, p, rest(t, small(int64(symbolOf(t, a, p))), p), api.OK)
		}
	}
}

// P21.5: what Order tells divides N; a to the power of it is alike 1, and to no power of it over one of the primes.
func TestWhatOrderTells(t *testing.T) {
	t.Parallel()
	r := rand.New(rand.NewSource(2108))
	for _, o := range someOrders() {
		n := rightOf(allOf(o.primes, o.powers))
		one := rest(t, plus(1), o.m)
		for range 40 {
			a := drawn(r, 1+r.Intn(4))
			e, f := power.Order(a, o.m, o.primes, o.powers)
			if f != api.OK {
				continue
			}
			if _, whole, g := divide.Exact(n, e); g != api.OK || !whole || !same(raised(t, a, e, o.m), one) {
				t.Errorf("Order(%s, %s): %s", short(a), short(o.m), short(e))
			}
			for _, p := range o.primes {
				if q, whole, _ := divide.Exact(e, p); whole && same(raised(t, a, q, o.m), one) {
					t.Errorf("Order(%s, %s): %s, but %s does it too", short(a), short(o.m), short(e), short(q))
				}
			}
		}
	}
}

// P21.3: of primes, no two the same, it is the least number above 0 with a to the power of it alike 1.
func TestLeastOrder(t *testing.T) {
	t.Parallel()
	primes, powers := smalls(2, 3, 5, 7, 11, 13, 17, 19, 23, 29), []int{6, 4, 2, 2, 1, 1, 1, 1, 1, 1}
	for m := int64(1); m <= 62; m++ {
		for a := range m {
			if !haveNoDivisor(t, small(a), small(m)) {
				holdOrder(t, small(a), small(m), primes, powers, api.Int{}, api.ErrPower)
				continue
			}
			least, x := int64(1), modulo(a, m)
			for x != modulo(1, m) {
				least, x = least+1, modulo(x*a, m)
			}
			err := api.OK
			if whole := rightOf(allOf(primes, powers)); !same(rest(t, whole, small(least)), api.Int{}) {
				least, err = 0, api.ErrArg
			}
			holdOrder(t, small(a), small(m), primes, powers, small(least), err)
		}
	}
}
