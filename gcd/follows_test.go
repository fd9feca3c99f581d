package gcd_test

import (
	"math/rand"
	"testing"

	"rosette/api"
	"rosette/divide"
	"rosette/gcd"
	"rosette/limb"
	"rosette/times"
)

// told is what a call told that must not be refused; it must be right.
func told(t *testing.T, x api.Int, e api.Errno) api.Int {
	t.Helper()
	if e != api.OK || !limb.Right(x) {
		t.Fatalf("%s, %v", short(x), e)
	}
	return x
}

// divisor is Of's, which must be told.
func divisor(t *testing.T, a, b api.Int) api.Int {
	t.Helper()
	g, e := gcd.Of(a, b)
	return told(t, g, e)
}

// parts is Bezout's answer, which must be told.
func parts(t *testing.T, a, b api.Int) (api.Int, api.Int, api.Int) {
	t.Helper()
	g, x, y, e := gcd.Bezout(a, b)
	return told(t, g, e), told(t, x, e), told(t, y, e)
}

func sum(t *testing.T, a, b api.Int) api.Int {
	t.Helper()
	x, e := limb.Add(a, b)
	return told(t, x, e)
}

func difference(t *testing.T, a, b api.Int) api.Int {
	t.Helper()
	x, e := limb.Sub(a, b)
	return told(t, x, e)
}

func multiplied(t *testing.T, a, b api.Int) api.Int {
	t.Helper()
	x, e := times.Mul(a, b)
	return told(t, x, e)
}

func order(t *testing.T, a, b api.Int) int {
	t.Helper()
	c, e := limb.Cmp(a, b)
	if e != api.OK {
		t.Fatalf("Cmp(%s, %s): %v", short(a), short(b), e)
	}
	return c
}

// over tells whether d divides a, and how often; 0 divides 0 alone.
func over(t *testing.T, a, d api.Int) (api.Int, bool) {
	t.Helper()
	if len(d.Mag) == 0 {
		return api.Int{}, len(a.Mag) == 0
	}
	q, whole, e := divide.Exact(a, d)
	return told(t, q, e), whole
}

// pairs are numbers of all kinds and signs, with common divisors and without.
func pairs() [][2]api.Int {
	r := rand.New(rand.NewSource(2001))
	few := []api.Int{{}, plus(1), plus(2), plus(12), plus(18), plus(ones), plus(1 << 63), plus(0, 1), plus(ones, 1), full(3), two(200)}
	l := [][2]api.Int{}
	for _, a := range few {
		for _, b := range few {
			l = append(l, [2]api.Int{a, b}, [2]api.Int{about(a), b}, [2]api.Int{a, about(b)}, [2]api.Int{about(a), about(b)})
		}
	}
	for range 300 {
		d := drawn(r, 1+r.Intn(4))
		l = append(l, [2]api.Int{drawn(r, r.Intn(7)), drawn(r, r.Intn(7))}, [2]api.Int{product(d, drawn(r, r.Intn(5))), product(d, drawn(r, r.Intn(5)))})
	}
	return append(l, [2]api.Int{drawn(r, 300), drawn(r, 200)}, [2]api.Int{drawn(r, 2000), drawn(r, 2000)})
}

// P20.5, P9: g divides both, and is not below 0; it is 0 for 0 and 0 alone.
func TestDividesBoth(t *testing.T) {
	t.Parallel()
	for _, p := range pairs() {
		g := divisor(t, p[0], p[1])
		_, one := over(t, p[0], g)
		_, other := over(t, p[1], g)
		if !one || !other || g.Neg || len(g.Mag) == 0 && len(p[0].Mag)+len(p[1].Mag) > 0 {
			t.Errorf("Of(%s, %s): %s", short(p[0]), short(p[1]), short(g))
		}
	}
}

// P20.5: each common divisor divides g: numbers that are looked through, and one that both are made with.
func TestCommonDivisorsDivide(t *testing.T) {
	t.Parallel()
	r := rand.New(rand.NewSource(2002))
	for _, p := range pairs() {
		g := divisor(t, p[0], p[1])
		for n := int64(1); n <= 40; n++ {
			_, one := over(t, p[0], small(n))
			_, other := over(t, p[1], small(n))
			if _, all := over(t, g, small(n)); all != (one && other) {
				t.Errorf("Of(%s, %s): %s, and %d", short(p[0]), short(p[1]), short(g), n)
			}
		}
		d := drawn(r, 1+r.Intn(5))
		if h := divisor(t, multiplied(t, p[0], d), multiplied(t, p[1], d)); !same(h, multiplied(t, g, sizeOf(d))) {
			t.Errorf("Of(%s, %s), both times %s: %s", short(p[0]), short(p[1]), short(d), short(h))
		}
	}
}

// P9, P20.2: g is made of both, x is where it must be, and Bezout's g is Of's.
func TestMadeOfBoth(t *testing.T) {
	t.Parallel()
	for _, p := range pairs() {
		a, b := p[0], p[1]
		g, x, y := parts(t, a, b)
		if made := sum(t, multiplied(t, a, x), multiplied(t, b, y)); !same(made, g) || !same(g, divisor(t, a, b)) {
			t.Errorf("Bezout(%s, %s): %s, %s, %s", short(a), short(b), short(g), short(x), short(y))
		}
		if len(b.Mag) == 0 {
			if sign, _ := limb.Cmp(a, b); !same(x, small(int64(sign))) || len(y.Mag) > 0 {
				t.Errorf("Bezout(%s, 0): %s, %s", short(a), short(x), short(y))
			}
			continue
		}
		if q, _ := over(t, sizeOf(b), g); x.Neg || order(t, x, q) >= 0 {
			t.Errorf("Bezout(%s, %s): x is %s", short(a), short(b), short(x))
		}
	}
}

// P20.5: g does not hang on signs, nor on which comes first, nor on a multiple of one that is put to the other.
func TestSameDivisor(t *testing.T) {
	t.Parallel()
	r := rand.New(rand.NewSource(2003))
	for _, p := range pairs() {
		g := divisor(t, p[0], p[1])
		far := sum(t, p[0], multiplied(t, p[1], drawn(r, r.Intn(3))))
		for _, q := range [][2]api.Int{{p[1], p[0]}, {about(p[0]), p[1]}, {about(p[1]), about(p[0])}, {far, p[1]}, {p[1], about(far)}} {
			if h := divisor(t, q[0], q[1]); !same(g, h) {
				t.Errorf("Of(%s, %s): %s, but of %s and %s: %s", short(p[0]), short(p[1]), short(g), short(q[0]), short(q[1]), short(h))
			}
		}
	}
}

// P20.5: of three numbers it is the same divisor and the same multiple, whichever two are taken first.
func TestOfThree(t *testing.T) {
	t.Parallel()
	r := rand.New(rand.NewSource(2004))
	for range 400 {
		d := drawn(r, 1+r.Intn(2))
		a, b, c := product(d, drawn(r, 1+r.Intn(3))), drawn(r, 1+r.Intn(4)), product(d, drawn(r, 1+r.Intn(3)))
		if !same(divisor(t, divisor(t, a, b), c), divisor(t, a, divisor(t, b, c))) {
			t.Errorf("divisors of %s, %s, %s", short(a), short(b), short(c))
		}
		if !same(multiple(t, multiple(t, a, b), c), multiple(t, a, multiple(t, b, c))) {
			t.Errorf("multiples of %s, %s, %s", short(a), short(b), short(c))
		}
	}
}

// multiple is Lcm's, which must be told.
func multiple(t *testing.T, a, b api.Int) api.Int {
	t.Helper()
	l, e := gcd.Lcm(a, b)
	return told(t, l, e)
}

// P20.5, P20.3: g times the Lcm is the size of a times b; the Lcm is a multiple of both, and not below 0.
func TestDivisorTimesMultiple(t *testing.T) {
	t.Parallel()
	for _, p := range pairs() {
		g, l := divisor(t, p[0], p[1]), multiple(t, p[0], p[1])
		if !same(multiplied(t, g, l), sizeOf(multiplied(t, p[0], p[1]))) {
			t.Errorf("of %s and %s: %s and %s", short(p[0]), short(p[1]), short(g), short(l))
		}
		_, one := over(t, l, p[0])
		_, other := over(t, l, p[1])
		if len(l.Mag) > 0 && (!one || !other) || l.Neg || !same(l, multiple(t, about(p[1]), p[0])) {
			t.Errorf("Lcm(%s, %s): %s", short(p[0]), short(p[1]), short(l))
		}
	}
}

// quadruples are two rests and two moduli, many of which have a number.
func quadruples() [][4]api.Int {
	r := rand.New(rand.NewSource(2005))
	l := [][4]api.Int{}
	for range 600 {
		m, n := sizeOf(drawn(r, 1+r.Intn(4))), sizeOf(drawn(r, 1+r.Intn(4)))
		if r.Intn(2) == 0 {
			d := sizeOf(drawn(r, 1+r.Intn(2)))
			m, n = product(m, d), product(n, d)
		}
		x, y := drawn(r, r.Intn(7)), drawn(r, r.Intn(7))
		if r.Intn(4) > 0 {
			y = rightOf(valueOf(x).Add(valueOf(x), valueOf(product(n, drawn(r, r.Intn(3))))))
		}
		l = append(l, [4]api.Int{x, m, y, n})
	}
	for range 600 {
		l = append(l, [4]api.Int{small(r.Int63n(99) - 49), small(1 + r.Int63n(30)), small(r.Int63n(99) - 49), small(1 + r.Int63n(30))})
	}
	return l
}

// isAlike tells whether two numbers differ by a multiple of m.
func isAlike(t *testing.T, a, b, m api.Int) bool {
	t.Helper()
	_, whole := over(t, difference(t, a, b), m)
	return whole
}

// P20.5: what Join tells is below its second answer, which is the Lcm, and has both rests; all that differ by multiples of that have them, too, and no others near it.
func TestJoined(t *testing.T) {
	t.Parallel()
	for _, c := range quadruples() {
		r, m, s, n := c[0], c[1], c[2], c[3]
		x, l, e := gcd.Join(r, m, s, n)
		if e == api.ErrJoin {
			continue
		}
		told(t, x, e)
		if x.Neg || order(t, x, l) >= 0 || !same(l, multiple(t, m, n)) || !isAlike(t, x, r, m) || !isAlike(t, x, s, n) {
			t.Errorf("Join(%s, %s, %s, %s): %s, %s", short(r), short(m), short(s), short(n), short(x), short(l))
		}
		for k := int64(-3); k <= 3; k++ {
			far := sum(t, x, multiplied(t, l, small(k)))
			if y, p, e := gcd.Join(far, m, far, n); !same(told(t, y, e), x) || !same(p, l) {
				t.Errorf("Join of %s modulo %s and %s: %s, not %s", short(far), short(m), short(n), short(y), short(x))
			}
			near := more(x, k)
			if _, all := over(t, small(k), l); all != (isAlike(t, near, r, m) && isAlike(t, near, s, n)) {
				t.Errorf("Join(%s, %s, %s, %s): %s, and %s", short(r), short(m), short(s), short(n), short(x), short(near))
			}
		}
		if y, p, e := gcd.Join(s, n, r, m); !same(told(t, y, e), x) || !same(p, l) {
			t.Errorf("Join(%s, %s, %s, %s), turned about: %s, %s", short(r), short(m), short(s), short(n), short(y), short(p))
		}
	}
}

// P20.5: there is a number just if g of m and n divides r less s; both are met.
func TestJoinOrNot(t *testing.T) {
	t.Parallel()
	met := map[api.Errno]int{}
	for _, c := range quadruples() {
		r, m, s, n := c[0], c[1], c[2], c[3]
		_, _, e := gcd.Join(r, m, s, n)
		met[e]++
		if _, some := over(t, difference(t, r, s), divisor(t, m, n)); some != (e == api.OK) {
			t.Errorf("Join(%s, %s, %s, %s): %v", short(r), short(m), short(s), short(n), e)
		}
	}
	if len(met) != 2 || met[api.OK] < 200 || met[api.ErrJoin] < 200 {
		t.Errorf("not both were met: %v", met)
	}
}

// P20.5: what is handed to Join as rests of one number comes back as that, from 0 up to the Lcm.
func TestJoinThereAndBack(t *testing.T) {
	t.Parallel()
	for _, c := range quadruples() {
		l := multiple(t, c[1], c[3])
		x, e := divide.Mod(c[0], l)
		told(t, x, e)
		r, e := divide.Mod(x, c[1])
		told(t, r, e)
		s, e := divide.Mod(x, c[3])
		told(t, s, e)
		holdJoin(t, r, c[1], s, c[3], x, l, api.OK)
	}
}
