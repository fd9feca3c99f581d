package gcd_test

import (
	"encoding/binary"
	"fmt"
	"math"
	"math/big"
	"math/rand"
	"slices"
	"sync"
	"testing"

	"rosette/api"
	"rosette/gcd"
)

const (
	ones    = 1<<64 - 1
	maxBits = 64 * api.MaxLimbs
)

func of(neg bool, l ...uint64) api.Int { return api.Int{Neg: neg, Mag: l} }

func plus(l ...uint64) api.Int { return of(false, l...) }

func less(l ...uint64) api.Int { return of(true, l...) }

// about is 0 less x.
func about(x api.Int) api.Int { return of(!x.Neg && len(x.Mag) > 0, x.Mag...) }

// sizeOf is x without its sign.
func sizeOf(x api.Int) api.Int { return plus(x.Mag...) }

// signs are x and 0 less x, which is one number, if x is 0.
func signs(x api.Int) []api.Int {
	if len(x.Mag) == 0 {
		return []api.Int{x}
	}
	return []api.Int{x, about(x)}
}

func same(a, b api.Int) bool { return a.Neg == b.Neg && slices.Equal(a.Mag, b.Mag) }

// full has so many limbs, all ones: 2^(64 limbs) - 1.
func full(limbs int) api.Int { return plus(slices.Repeat([]uint64{ones}, limbs)...) }

// two is 2^n.
func two(n int) api.Int {
	m := make([]uint64, n/64+1)
	m[n/64] = 1 << (n % 64)
	return plus(m...)
}

// small is n as a whole number.
func small(n int64) api.Int { return rightOf(big.NewInt(n)) }

// valueOf is what x is, as a whole number of the library.
func valueOf(x api.Int) *big.Int {
	b := make([]byte, 0, 8*len(x.Mag))
	for _, l := range slices.Backward(x.Mag) {
		b = binary.BigEndian.AppendUint64(b, l)
	}
	n := new(big.Int).SetBytes(b)
	if x.Neg {
		n.Neg(n)
	}
	return n
}

// fits tells whether n is not too long.
func fits(n *big.Int) bool { return n.BitLen() <= maxBits }

// rightOf is the right whole number of n, which must not be too long.
func rightOf(n *big.Int) api.Int {
	if !fits(n) {
		panic("too long")
	}
	x := api.Int{Neg: n.Sign() < 0}
	b := new(big.Int).Abs(n).FillBytes(make([]byte, (n.BitLen()+63)/64*8))
	for i := len(b); i > 0; i -= 8 {
		x.Mag = append(x.Mag, binary.BigEndian.Uint64(b[i-8:]))
	}
	return x
}

// more is x and n.
func more(x api.Int, n int64) api.Int {
	return rightOf(new(big.Int).Add(valueOf(x), big.NewInt(n)))
}

// product is a b, which must not be too long.
func product(a, b api.Int) api.Int {
	return rightOf(new(big.Int).Mul(valueOf(a), valueOf(b)))
}

// drawn is a right whole number of so many limbs, of either sign, with runs of noughts and of ones.
func drawn(r *rand.Rand, limbs int) api.Int {
	m := make([]uint64, limbs)
	for i := 0; i < limbs; {
		kind, run := r.Intn(7), 1
		if kind < 3 && r.Intn(3) == 0 {
			run = 1 + r.Intn(limbs)
		}
		for ; run > 0 && i < limbs; run-- {
			m[i] = []uint64{0, ones, ones, 1, 1 << 63, r.Uint64(), r.Uint64() >> r.Intn(64)}[kind]
			i++
		}
	}
	if limbs > 0 {
		m[limbs-1] |= 1 << r.Intn(64)
	}
	return of(limbs > 0 && r.Intn(2) == 0, m...)
}

// noughts are all forms of 0.
func noughts() []api.Int {
	return []api.Int{{}, {Mag: []uint64{}}, {Mag: make([]uint64, 0, 5)}}
}

// wrongs are whole numbers that are not right, each by one fault alone.
func wrongs() []api.Int {
	long := full(api.MaxLimbs + 1)
	return []api.Int{
		{Neg: true}, {Neg: true, Mag: []uint64{}}, {Neg: true, Mag: make([]uint64, 0, 3)}, // no limbs and Neg
		plus(0), less(0), plus(1, 0), less(1, 0), plus(0, 0), plus(ones, ones, 0), plus(append(full(api.MaxLimbs-1).Mag, 0)...), // a 0 on top
		long, about(long), two(maxBits), about(two(maxBits)), full(5000), // limbs
	}
}

// short tells a number of few limbs whole, and the ends of others.
func short(x api.Int) string {
	if n := len(x.Mag); n > 8 {
		return fmt.Sprintf("{%v %d limbs: %v .. %v}", x.Neg, n, x.Mag[:3], x.Mag[n-3:])
	}
	return fmt.Sprint(x)
}

func holdOf(t *testing.T, a, b, g api.Int, err api.Errno) {
	t.Helper()
	if x, e := gcd.Of(a, b); e != err || !same(x, g) {
		t.Errorf("Of(%s, %s): %s, %v; wanted are %s, %v", short(a), short(b), short(x), e, short(g), err)
	}
}

func holdBezout(t *testing.T, a, b, g, x, y api.Int, err api.Errno) {
	t.Helper()
	if h, u, v, e := gcd.Bezout(a, b); e != err || !same(h, g) || !same(u, x) || !same(v, y) {
		t.Errorf("Bezout(%s, %s): %s, %s, %s, %v; wanted are %s, %s, %s, %v", short(a), short(b), short(h), short(u), short(v), e, short(g), short(x), short(y), err)
	}
}

func holdLcm(t *testing.T, a, b, l api.Int, err api.Errno) {
	t.Helper()
	if x, e := gcd.Lcm(a, b); e != err || !same(x, l) {
		t.Errorf("Lcm(%s, %s): %s, %v; wanted are %s, %v", short(a), short(b), short(x), e, short(l), err)
	}
}

func holdJoin(t *testing.T, r, m, s, n, x, l api.Int, err api.Errno) {
	t.Helper()
	if y, k, e := gcd.Join(r, m, s, n); e != err || !same(y, x) || !same(k, l) {
		t.Errorf("Join(%s, %s, %s, %s): %s, %s, %v; wanted are %s, %s, %v", short(r), short(m), short(s), short(n), short(y), short(k), e, short(x), short(l), err)
	}
}

// divisorOf is the greatest common divisor by the library.
func divisorOf(a, b *big.Int) *big.Int {
	return new(big.Int).GCD(nil, nil, new(big.Int).Abs(a), new(big.Int).Abs(b))
}

// multipleOf is the least common multiple by the library, or 0.
func multipleOf(a, b *big.Int) *big.Int {
	if a.Sign() == 0 || b.Sign() == 0 {
		return new(big.Int)
	}
	l := new(big.Int).Quo(a, divisorOf(a, b))
	l.Mul(l, b)
	return l.Abs(l)
}

// partsOf is how often a and b go into g, their greatest common divisor, as P20.2 asks.
func partsOf(a, b, g *big.Int) (*big.Int, *big.Int) {
	if b.Sign() == 0 {
		return big.NewInt(int64(a.Sign())), new(big.Int)
	}
	round := new(big.Int).Quo(b, g)
	round.Abs(round)
	// Modulo 1 there is 0 alone.
	x := new(big.Int)
	if round.Cmp(big.NewInt(1)) > 0 {
		x.ModInverse(new(big.Int).Quo(a, g), round)
	}
	y := new(big.Int).Mul(a, x)
	return x, y.Quo(y.Sub(g, y), b)
}

// against holds Of, Bezout and Lcm against the library.
func against(t *testing.T, a, b api.Int) {
	t.Helper()
	m, n := valueOf(a), valueOf(b)
	g := divisorOf(m, n)
	x, y := partsOf(m, n, g)
	holdOf(t, a, b, rightOf(g), api.OK)
	holdBezout(t, a, b, rightOf(g), rightOf(x), rightOf(y), api.OK)
	if l := multipleOf(m, n); fits(l) {
		holdLcm(t, a, b, rightOf(l), api.OK)
	} else {
		holdLcm(t, a, b, api.Int{}, api.ErrLong)
	}
}

// againstSigns holds these calls against the library, of all signs, either number first.
func againstSigns(t *testing.T, a, b api.Int) {
	t.Helper()
	for _, x := range signs(a) {
		for _, y := range signs(b) {
			against(t, x, y)
			against(t, y, x)
		}
	}
}

// againstJoin holds Join against what the document asks, by the library.
func againstJoin(t *testing.T, r, m, s, n api.Int) {
	t.Helper()
	p, q := valueOf(m), valueOf(n)
	apart := new(big.Int).Sub(valueOf(r), valueOf(s))
	l := multipleOf(p, q)
	if apart.Rem(apart, divisorOf(p, q)).Sign() != 0 {
		holdJoin(t, r, m, s, n, api.Int{}, api.Int{}, api.ErrJoin)
		return
	}
	if !fits(l) {
		holdJoin(t, r, m, s, n, api.Int{}, api.Int{}, api.ErrLong)
		return
	}
	x, k, e := gcd.Join(r, m, s, n)
	if e != api.OK || !same(k, rightOf(l)) {
		t.Errorf("Join(%s, %s, %s, %s): %s, %v; wanted is %s", short(r), short(m), short(s), short(n), short(k), e, short(rightOf(l)))
		return
	}
	v := valueOf(x)
	one, other := new(big.Int).Sub(v, valueOf(r)), new(big.Int).Sub(v, valueOf(s))
	if x.Neg || v.Cmp(l) >= 0 || one.Rem(one, p).Sign() != 0 || other.Rem(other, q).Sign() != 0 || !same(x, rightOf(v)) {
		t.Errorf("Join(%s, %s, %s, %s): %s, of %s", short(r), short(m), short(s), short(n), short(x), short(k))
	}
}

// P20.1 to P20.4: what the chapter and DOC.md write out.
func TestExamples(t *testing.T) {
	for _, c := range [][3]int64{{12, -18, 6}, {0, -5, 5}, {0, 0, 0}, {12, 18, 6}} {
		holdOf(t, small(c[0]), small(c[1]), small(c[2]), api.OK)
	}
	for _, c := range [][3]int64{{4, -6, 12}, {0, 7, 0}} {
		holdLcm(t, small(c[0]), small(c[1]), small(c[2]), api.OK)
	}
	for _, c := range [][5]int64{{12, 18, 6, 2, -1}, {-12, 18, 6, 1, 1}, {7, 1, 1, 0, 1}, {5, -5, 5, 0, -1}, {-4, 0, 4, -1, 0}, {0, -3, 3, 0, -1}, {0, 0, 0, 0, 0}} {
		holdBezout(t, small(c[0]), small(c[1]), small(c[2]), small(c[3]), small(c[4]), api.OK)
	}
	for _, c := range [][6]int64{{2, 3, 3, 5, 8, 15}, {-1, 4, 1, 6, 7, 12}, {9, 1, -9, 1, 0, 1}} {
		holdJoin(t, small(c[0]), small(c[1]), small(c[2]), small(c[3]), small(c[4]), small(c[5]), api.OK)
	}
	holdJoin(t, small(0), small(4), small(1), small(6), api.Int{}, api.Int{}, api.ErrJoin)
	holdJoin(t, small(0), small(0), small(0), small(1), api.Int{}, api.Int{}, api.ErrArg)
	holdJoin(t, small(0), small(-2), small(0), small(1), api.Int{}, api.Int{}, api.ErrArg)
}

// divides tells whether d divides a.
func divides(d, a int64) bool { return d != 0 && a%d == 0 || a == 0 }

// greatest is the greatest common divisor, looked for from above.
func greatest(a, b int64) int64 {
	if a == 0 && b == 0 {
		return 0
	}
	g := max(a, -a, b, -b)
	for !divides(g, a) || !divides(g, b) {
		g--
	}
	return g
}

// holdSmall holds Of, Bezout and Lcm against what is found by looking at each number.
func holdSmall(t *testing.T, a, b int64) {
	t.Helper()
	g := greatest(a, b)
	x, y, l := int64(0), int64(0), int64(0)
	switch {
	case b != 0:
		for (g-a*x)%b != 0 {
			x++
		}
		y = (g - a*x) / b
		if x > max(b, -b)/g-1 {
			t.Fatal("the test is wrong", a, b)
		}
	case a != 0:
		x = a / max(a, -a)
	}
	if a != 0 && b != 0 {
		l = 1
		for !divides(a, l) || !divides(b, l) {
			l++
		}
	}
	holdOf(t, small(a), small(b), small(g), api.OK)
	holdBezout(t, small(a), small(b), small(g), small(x), small(y), api.OK)
	holdLcm(t, small(a), small(b), small(l), api.OK)
}

// P20.1 to P20.3: all small numbers of all signs, and 0 on either side and on both.
func TestSmalls(t *testing.T) {
	t.Parallel()
	for a := int64(-66); a <= 66; a++ {
		for b := int64(-66); b <= 66; b++ {
			holdSmall(t, a, b)
		}
	}
}

// P20.4: all small numbers, rests of either sign and outside of the moduli too.
func TestSmallJoins(t *testing.T) {
	t.Parallel()
	for m := int64(1); m <= 15; m++ {
		for n := int64(1); n <= 15; n++ {
			l := m
			for l%n != 0 {
				l += m
			}
			for r := int64(-17); r <= 17; r++ {
				for s := int64(-17); s <= 17; s++ {
					x := int64(0)
					for x < l && ((x-r)%m != 0 || (x-s)%n != 0) {
						x++
					}
					if x < l {
						holdJoin(t, small(r), small(m), small(s), small(n), small(x), small(l), api.OK)
					} else {
						holdJoin(t, small(r), small(m), small(s), small(n), api.Int{}, api.Int{}, api.ErrJoin)
					}
				}
			}
		}
	}
}

// edges are 0, powers of two, the numbers next to them, and numbers of few limbs, from 0 on.
func edges() []api.Int {
	l := []api.Int{{}, plus(1), plus(6), plus(10), plus(30), plus(210)}
	for _, n := range []int{2, 31, 32, 33, 62, 63, 64, 65, 127, 128, 129, 192, 193, 400} {
		l = append(l, more(two(n), -1), two(n), more(two(n), 1))
	}
	return append(l,
		plus(ones-1), plus(ones-2), plus(1<<63+2), plus(ones, 1), plus(0, ones), plus(1, ones), plus(ones, 1<<63-1), plus(ones, 1<<63), plus(0, 1, 1), plus(ones, 0, 1), plus(ones, ones, 1), plus(0, 0, ones), plus(ones-1, ones, ones),
		plus(1<<63, 0, 1<<63), plus(0xaaaaaaaaaaaaaaaa, 0x5555555555555555), plus(1, 2, 3, 4, 5, 6, 7), full(7))
}

// P20.1 to P20.3: all pairs of edges, of all signs: 0 on either side and on both, 1 and -1, equal numbers, numbers that differ in their sign alone.
func TestEdges(t *testing.T) {
	t.Parallel()
	l := edges()
	for i, a := range l {
		for _, b := range l[i:] {
			againstSigns(t, a, b)
		}
	}
}

// P20.1 to P20.3: all pairs of the forms of 0, and of these and others.
func TestNoughts(t *testing.T) {
	for _, nought := range noughts() {
		for _, other := range noughts() {
			holdOf(t, nought, other, api.Int{}, api.OK)
			holdBezout(t, nought, other, api.Int{}, api.Int{}, api.Int{}, api.OK)
			holdLcm(t, nought, other, api.Int{}, api.OK)
		}
		for _, size := range append(edges()[1:], full(api.MaxLimbs), two(maxBits-1)) {
			for i, a := range signs(size) {
				sign := small(int64(1 - 2*i))
				holdOf(t, nought, a, size, api.OK)
				holdOf(t, a, nought, size, api.OK)
				holdBezout(t, nought, a, size, api.Int{}, sign, api.OK)
				holdBezout(t, a, nought, size, sign, api.Int{}, api.OK)
				holdLcm(t, nought, a, api.Int{}, api.OK)
				holdLcm(t, a, nought, api.Int{}, api.OK)
			}
		}
	}
}

// P20.1 to P20.3: a number beside itself, 1, itself less 1, and a multiple, of all signs.
func TestOneAndItself(t *testing.T) {
	t.Parallel()
	r := rand.New(rand.NewSource(200))
	for _, a := range append(edges()[1:], drawn(r, 30), full(200), two(9999), full(api.MaxLimbs), two(maxBits-1)) {
		againstSigns(t, a, plus(1))
		againstSigns(t, a, a)
		if len(a.Mag) < 201 {
			againstSigns(t, a, more(sizeOf(a), -1))
			againstSigns(t, a, product(a, drawn(r, 1+r.Intn(4))))
			againstSigns(t, a, product(a, full(100)))
		}
	}
}

// P20.1 to P20.3: numbers of all lengths, with a common divisor of all lengths, and without one that is looked for.
func TestLengths(t *testing.T) {
	t.Parallel()
	r := rand.New(rand.NewSource(201))
	for limbs := range 18 {
		for other := range limbs + 1 {
			againstSigns(t, drawn(r, limbs), drawn(r, other))
			d := drawn(r, 1+r.Intn(6))
			againstSigns(t, product(d, drawn(r, limbs)), product(d, drawn(r, other)))
		}
	}
	for range 12000 {
		d := drawn(r, r.Intn(3))
		against(t, product(d, drawn(r, r.Intn(5))), product(d, drawn(r, r.Intn(5))))
		against(t, drawn(r, r.Intn(5)), drawn(r, r.Intn(5)))
	}
}

// byQuotients are the two numbers whose rests are made by these quotients, the last one first, and end with d.
func byQuotients(d api.Int, quotients ...*big.Int) (api.Int, api.Int) {
	a, b := valueOf(d), new(big.Int)
	for _, q := range quotients {
		a, b = b.Add(b, new(big.Int).Mul(a, q)), a
	}
	return rightOf(a), rightOf(b)
}

// quotient is a number from 1 on: 1 or 2, or next to a power of two, or of many limbs.
func quotient(r *rand.Rand, kind int) *big.Int {
	q := big.NewInt(1 + r.Int63n(2))
	switch kind {
	case 1:
		q.Lsh(big.NewInt(1), uint(28+r.Intn(8))).Add(q, big.NewInt(r.Int63n(3)-1))
	case 2:
		q.Lsh(big.NewInt(1), uint(60+r.Intn(8))).Add(q, big.NewInt(r.Int63n(3)-1))
	case 3:
		q.Add(q, valueOf(sizeOf(drawn(r, r.Intn(5)))))
	case 4:
		q.SetInt64(1 + r.Int63n(1<<r.Intn(34)))
	}
	return q
}

// P20.1 to P20.3: numbers made of chosen quotients: as small as can be, just so great that the highest bits tell them or do not, and greater than any limb, alone and in turn.
func TestQuotients(t *testing.T) {
	t.Parallel()
	r := rand.New(rand.NewSource(202))
	for range 1500 {
		kinds := [2]int{r.Intn(5), r.Intn(5)}
		turn := 1 + r.Intn(40)
		l := []*big.Int{}
		for i := range 1 + r.Intn(120) {
			l = append(l, quotient(r, kinds[i/turn%2]))
		}
		a, b := byQuotients(sizeOf(drawn(r, 1+r.Intn(3))), l...)
		against(t, a, b)
		against(t, about(b), a)
		against(t, about(a), about(b))
	}
}

// P20.1, P20.2: numbers whose highest bits are the same, or next to the same, so that no more than the first quotient is told by them.
func TestSameHeads(t *testing.T) {
	t.Parallel()
	r := rand.New(rand.NewSource(203))
	for _, limbs := range []int{2, 3, 4, 9} {
		for range 300 {
			a := sizeOf(drawn(r, limbs))
			b := slices.Clone(a.Mag)
			at := r.Intn(limbs)
			b[at] ^= 1 << r.Intn(64)
			if at == limbs-1 {
				b[at] |= 1 << 60
			}
			againstSigns(t, a, plus(b...))
			half := rightOf(new(big.Int).Rsh(valueOf(plus(b...)), 1))
			againstSigns(t, a, half)
			againstSigns(t, a, more(half, 1))
		}
	}
}

// nextTwo are the n-th and the next number of the row 0 1 1 2 3 5, in which each is the sum of the two ahead of it.
func nextTwo(n int) (*big.Int, *big.Int) {
	if n == 0 {
		return new(big.Int), big.NewInt(1)
	}
	a, b := nextTwo(n / 2)
	squares := new(big.Int).Add(new(big.Int).Mul(a, a), new(big.Int).Mul(b, b))
	twice := new(big.Int).Lsh(b, 1)
	double := twice.Mul(a, twice.Sub(twice, a))
	if n%2 == 0 {
		return double, squares
	}
	return squares, double.Add(double, squares)
}

// P20.1 to P20.3: the numbers with the most steps there are, in all lengths up to the greatest of 4096 limbs: all quotients are 1.
func TestMostSteps(t *testing.T) {
	t.Parallel()
	for n := range 600 {
		a, b := nextTwo(n)
		against(t, rightOf(b), rightOf(a))
		against(t, about(rightOf(a)), rightOf(b))
	}
	for _, n := range []int{5001, 20000, 100001, 200000} {
		a, b := nextTwo(n)
		against(t, rightOf(b), rightOf(a))
	}
	a, b := nextTwo(377500)
	for c := new(big.Int).Add(a, b); fits(c); c = new(big.Int).Add(a, b) {
		a, b = b, c
	}
	if b.BitLen() != maxBits {
		t.Fatal("not the greatest: ", b.BitLen(), " bits")
	}
	against(t, rightOf(b), rightOf(a))
	against(t, about(rightOf(a)), rightOf(b))
}

// P20.1 to P20.3: numbers of 4096 limbs: all ones, powers of two, drawn ones, with a divisor of half as many limbs and without one, beside numbers of one limb and of many.
func TestLongs(t *testing.T) {
	t.Parallel()
	r := rand.New(rand.NewSource(204))
	top := full(api.MaxLimbs)
	againstSigns(t, top, more(top, -1))
	againstSigns(t, top, two(maxBits-1))
	againstSigns(t, top, plus(3))
	againstSigns(t, two(maxBits-1), plus(1<<63))
	againstSigns(t, top, full(2048))
	againstSigns(t, drawn(r, api.MaxLimbs), plus(ones))
	d := drawn(r, 2047)
	for _, c := range [][2]api.Int{{product(d, drawn(r, 2049)), product(d, drawn(r, 2049))}, {top, about(drawn(r, api.MaxLimbs))}, {drawn(r, api.MaxLimbs), drawn(r, 2048)}} {
		against(t, c[0], c[1])
		against(t, c[1], c[0])
	}
}

// firstLong are two numbers without a common divisor whose product is 2^262144 + 1, which is 13631489 times another number: the first number that is too long and a multiple that two numbers have least.
func firstLong() (api.Int, api.Int) {
	d := big.NewInt(13631489)
	n := valueOf(full(api.MaxLimbs))
	n.Add(n, big.NewInt(2))
	q, rest := n.QuoRem(n, d, new(big.Int))
	if rest.Sign() != 0 || divisorOf(d, q).Cmp(big.NewInt(1)) != 0 {
		panic("no two such numbers")
	}
	return rightOf(d), rightOf(q)
}

// P20.3: ErrLong just where the multiple is too long: 2^262144 - 1 is told, in many ways, 2^262144 + 1 is not (2^262144 is no number's least multiple, as all that make it are too long).
func TestLcmAtTheEnd(t *testing.T) {
	t.Parallel()
	top := full(api.MaxLimbs)
	for _, d := range []api.Int{plus(1), plus(3), plus(15), more(two(maxBits/2), -1), more(two(maxBits/2), 1), more(two(maxBits/4), 1), top} {
		q := rightOf(new(big.Int).Quo(valueOf(top), valueOf(d)))
		holdLcm(t, d, top, top, api.OK)
		holdLcm(t, about(top), d, top, api.OK)
		if divisorOf(valueOf(d), valueOf(q)).Cmp(big.NewInt(1)) == 0 {
			holdLcm(t, d, about(q), top, api.OK)
		}
	}
	a, b := firstLong()
	for _, c := range [][2]api.Int{{a, b}, {b, a}, {top, plus(2)}, {top, two(maxBits - 1)}, {top, more(top, -1)}, {two(maxBits - 1), plus(3)}, {two(maxBits / 2), more(two(maxBits/2), 1)}, {more(two(maxBits/2), 1), more(two(maxBits/2), 2)}} {
		holdLcm(t, c[0], c[1], api.Int{}, api.ErrLong)
		holdLcm(t, about(c[0]), c[1], api.Int{}, api.ErrLong)
		holdLcm(t, c[0], about(c[1]), api.Int{}, api.ErrLong)
	}
	holdLcm(t, two(maxBits-1), two(maxBits-2), two(maxBits-1), api.OK)
	holdLcm(t, two(maxBits-2), plus(3), product(two(maxBits-2), plus(3)), api.OK)
}

// restsOf are rests of all kinds for a modulus, of either sign, inside and far outside.
func restsOf(r *rand.Rand, m api.Int) []api.Int {
	n := valueOf(m)
	l := []api.Int{{}, plus(1), less(1), m, about(m), drawn(r, 1+r.Intn(9)), about(full(9))}
	for _, k := range []int64{-1, 1, 2, -1 << 40} {
		x := new(big.Int).Mul(n, big.NewInt(k))
		if x.Sub(x, big.NewInt(3)); fits(x) {
			l = append(l, rightOf(x))
		}
	}
	return l
}

// holdJoins holds Join for two moduli, with rests that have a number and rests that are drawn.
func holdJoins(t *testing.T, r *rand.Rand, m, n api.Int) {
	t.Helper()
	for _, x := range restsOf(r, m) {
		for _, y := range restsOf(r, n) {
			againstJoin(t, x, m, y, n)
		}
		// These have one: x itself, a multiple of n off.
		off := new(big.Int).Mul(valueOf(drawn(r, r.Intn(3))), valueOf(n))
		if off.Add(off, valueOf(x)); fits(off) {
			againstJoin(t, x, m, rightOf(off), n)
			againstJoin(t, rightOf(off), n, x, m)
		}
	}
}

// P20.4: pairs of edges: 1 as one modulus or both, equal moduli, one dividing the other, and without a common divisor.
func TestJoinEdges(t *testing.T) {
	t.Parallel()
	r := rand.New(rand.NewSource(205))
	l := []api.Int{plus(1), plus(2), plus(3), plus(6), plus(210), plus(ones), plus(1 << 63), two(64), more(two(64), 1), two(128), more(two(200), -1), full(7), plus(0, 6), product(full(7), plus(6))}
	for _, m := range l {
		for _, n := range l {
			holdJoins(t, r, m, n)
		}
	}
}

// P20.4: moduli of all lengths, with a common divisor and without one.
func TestJoinLengths(t *testing.T) {
	t.Parallel()
	r := rand.New(rand.NewSource(206))
	for range 300 {
		m, n := sizeOf(drawn(r, 1+r.Intn(5))), sizeOf(drawn(r, 1+r.Intn(5)))
		d := sizeOf(drawn(r, 1+r.Intn(3)))
		holdJoins(t, r, m, n)
		holdJoins(t, r, product(m, d), product(n, d))
		holdJoins(t, r, product(m, d), d)
	}
}

// P20.4: moduli up to 4096 limbs, whose Lcm just fits, and rests as long as can be.
func TestJoinLongs(t *testing.T) {
	t.Parallel()
	r := rand.New(rand.NewSource(207))
	top := full(api.MaxLimbs)
	half := two(maxBits / 2)
	for _, c := range [][2]api.Int{{more(half, -1), more(half, 1)}, {top, plus(3)}, {top, top}, {top, more(half, 1)}, {plus(1), top}, {two(maxBits - 1), plus(2)}, {sizeOf(drawn(r, 3000)), sizeOf(drawn(r, 1096))}} {
		for _, rests := range [][2]api.Int{{about(top), top}, {more(top, -1), less(1)}, {drawn(r, api.MaxLimbs), drawn(r, 3)}} {
			againstJoin(t, rests[0], c[0], rests[1], c[1])
			againstJoin(t, rests[0], c[0], rests[0], c[1])
			againstJoin(t, rests[1], c[1], rests[0], c[0])
		}
	}
	holdJoin(t, less(1), top, less(1), more(half, 1), more(top, -1), top, api.OK)
}

// P20.4: ErrLong just where the Lcm is too long, whatever the number would be; ErrJoin, where there is none, ahead of that.
func TestJoinAtTheEnd(t *testing.T) {
	t.Parallel()
	top := full(api.MaxLimbs)
	a, b := firstLong()
	for _, rest := range []api.Int{{}, plus(1), less(1), top, about(top)} {
		holdJoin(t, rest, a, rest, b, api.Int{}, api.Int{}, api.ErrLong)
		holdJoin(t, rest, b, api.Int{}, a, api.Int{}, api.Int{}, api.ErrLong)
		holdJoin(t, rest, top, rest, plus(2), api.Int{}, api.Int{}, api.ErrLong)
		holdJoin(t, rest, plus(2), rest, top, api.Int{}, api.Int{}, api.ErrLong)
	}
	holdJoin(t, plus(5), top, plus(5), two(maxBits-1), api.Int{}, api.Int{}, api.ErrLong)
	holdJoin(t, plus(5), two(maxBits-1), plus(4), more(top, -1), api.Int{}, api.Int{}, api.ErrJoin)
	holdJoin(t, plus(5), two(maxBits-1), plus(3), more(top, -1), api.Int{}, api.Int{}, api.ErrLong)
	holdJoin(t, plus(5), more(top, -3), plus(4), two(maxBits-1), api.Int{}, api.Int{}, api.ErrJoin)
	holdJoin(t, plus(1), top, less(1), plus(3), api.Int{}, api.Int{}, api.ErrJoin)
	holdJoin(t, plus(1), top, less(2), plus(3), plus(1), top, api.OK)
}

// R8, P20.1 to P20.4: ErrArg for what is not right, at each place of each call; all else is 0.
func TestRefused(t *testing.T) {
	others := []api.Int{{}, plus(1), less(1), plus(6), less(9), full(3), full(api.MaxLimbs), about(full(api.MaxLimbs))}
	for _, x := range wrongs() {
		for _, y := range append(wrongs(), others...) {
			for _, c := range [][2]api.Int{{x, y}, {y, x}} {
				holdOf(t, c[0], c[1], api.Int{}, api.ErrArg)
				holdBezout(t, c[0], c[1], api.Int{}, api.Int{}, api.Int{}, api.ErrArg)
				holdLcm(t, c[0], c[1], api.Int{}, api.ErrArg)
			}
		}
		for _, y := range append(wrongs(), others...) {
			for _, z := range []api.Int{{}, plus(1), plus(4), less(1), x} {
				holdJoin(t, x, y, z, y, api.Int{}, api.Int{}, api.ErrArg)
				holdJoin(t, y, x, z, y, api.Int{}, api.Int{}, api.ErrArg)
				holdJoin(t, z, y, x, y, api.Int{}, api.Int{}, api.ErrArg)
				holdJoin(t, z, y, y, x, api.Int{}, api.Int{}, api.ErrArg)
			}
		}
	}
}

// P20.4: ErrArg for what is not right beside what is, at each place, also where the rests have no number.
func TestJoinOneWrong(t *testing.T) {
	for _, x := range wrongs() {
		for place := range 4 {
			for _, c := range [][4]api.Int{{plus(2), plus(3), plus(3), plus(5)}, {{}, plus(4), plus(1), plus(6)}, {full(api.MaxLimbs), full(api.MaxLimbs), less(1), two(maxBits - 1)}} {
				c[place] = x
				holdJoin(t, c[0], c[1], c[2], c[3], api.Int{}, api.Int{}, api.ErrArg)
			}
		}
	}
}

// P20.4: ErrArg for a modulus that is not above 0, in every form of 0, on either side.
func TestJoinModulus(t *testing.T) {
	below := append(noughts(), less(1), less(2), less(6), less(ones), about(two(64)), about(full(api.MaxLimbs)))
	for _, m := range below {
		for _, n := range append([]api.Int{plus(1), plus(2), full(3), full(api.MaxLimbs)}, below...) {
			for _, r := range []api.Int{{}, plus(1), less(7), full(5)} {
				holdJoin(t, r, m, r, n, api.Int{}, api.Int{}, api.ErrArg)
				holdJoin(t, r, n, api.Int{}, m, api.Int{}, api.Int{}, api.ErrArg)
			}
		}
	}
}

// spoil overwrites all that a list has, its spare room too.
func spoil(l []uint64) {
	l = l[:cap(l)]
	for i := range l {
		l[i] = 7
	}
}

// calls are of all four, each with the numbers that it answers.
func calls(l [4]api.Int) map[string]func() []api.Int {
	return map[string]func() []api.Int{
		"Of":     func() []api.Int { g, _ := gcd.Of(l[0], l[1]); return []api.Int{g} },
		"Bezout": func() []api.Int { g, x, y, _ := gcd.Bezout(l[0], l[1]); return []api.Int{g, x, y} },
		"Lcm":    func() []api.Int { x, _ := gcd.Lcm(l[0], l[1]); return []api.Int{x} },
		"Join":   func() []api.Int { x, k, _ := gcd.Join(l[2], l[0], l[3], l[1]); return []api.Int{x, k} },
	}
}

// copied is each number in memory of its own.
func copied(l []api.Int) []api.Int {
	c := []api.Int{}
	for _, x := range l {
		c = append(c, of(x.Neg, slices.Clone(x.Mag)...))
	}
	return c
}

// roomy is x with three limbs of spare room, and all that memory.
func roomy(x api.Int) (api.Int, []uint64) {
	room := append(slices.Clone(x.Mag), 11, 12, 13)
	return of(x.Neg, room[:len(x.Mag)]...), room
}

// numbersForMemory are two numbers and two rests of all kinds: 0, 1, one dividing the other, equal ones, with a common divisor, and others.
func numbersForMemory() [][4]api.Int {
	r := rand.New(rand.NewSource(208))
	l := [][4]api.Int{}
	firsts := []api.Int{{}, plus(1), less(1), plus(6), less(6), full(3), drawn(r, 50)}
	for _, a := range firsts {
		for _, b := range firsts {
			l = append(l, [4]api.Int{a, b, plus(2), plus(2)}, [4]api.Int{a, b, drawn(r, 4), {}})
		}
	}
	for range 100 {
		a, b, d := sizeOf(drawn(r, 1+r.Intn(4))), sizeOf(drawn(r, 1+r.Intn(4))), sizeOf(drawn(r, 1+r.Intn(2)))
		x := drawn(r, 3)
		l = append(l, [4]api.Int{a, b, x, x}, [4]api.Int{product(a, d), product(b, d), x, x}, [4]api.Int{product(a, d), d, x, x}, [4]api.Int{d, product(about(a), d), x, d})
	}
	return l
}

// R3: numbers are only read, their spare room too; answers are the caller's own, apart from one another.
func TestMemory(t *testing.T) {
	t.Parallel()
	for _, l := range numbersForMemory() {
		rooms, kept := [4][]uint64{}, [4][]uint64{}
		for i, x := range l {
			l[i], rooms[i] = roomy(x)
			kept[i] = slices.Clone(rooms[i])
		}
		for name, call := range calls(l) {
			first, second := call(), call()
			keep := copied(first)
			for _, x := range second {
				spoil(x.Mag)
			}
			if !slices.EqualFunc(first, keep, same) {
				t.Errorf("%s of %v: two answers share memory", name, l)
			}
			for i, x := range first {
				spoil(x.Mag)
				if !slices.EqualFunc(first[i+1:], keep[i+1:], same) {
					t.Errorf("%s of %v: the numbers of an answer share memory", name, l)
				}
			}
			if !slices.EqualFunc(rooms[:], kept[:], slices.Equal) {
				t.Fatalf("%s of %v: what was handed in has changed", name, l)
			}
			if again := call(); !slices.EqualFunc(again, keep, same) {
				t.Errorf("%s of %v: the answer has changed", name, l)
			}
		}
	}
}

// R3: the spare room of one number of an answer is not that of another one.
func TestSpareRoomApart(t *testing.T) {
	t.Parallel()
	for _, l := range numbersForMemory() {
		for name, call := range calls(l) {
			for i := range call() {
				answer := call()
				kept := [][]uint64{}
				for _, x := range answer {
					kept = append(kept, slices.Clone(x.Mag[:cap(x.Mag)]))
				}
				spoil(answer[i].Mag)
				for j, x := range answer {
					if j != i && !slices.Equal(x.Mag[:cap(x.Mag)], kept[j]) {
						t.Errorf("%s of %v: spare room is shared", name, l)
					}
				}
			}
		}
	}
}

// R3: one number handed in at all places is only read, and is no answer's memory.
func TestOneMemory(t *testing.T) {
	x, room := roomy(plus(6, 1))
	kept := slices.Clone(room)
	for name, call := range calls([4]api.Int{x, x, x, x}) {
		for _, y := range call() {
			spoil(y.Mag)
		}
		if !slices.Equal(room, kept) {
			t.Fatalf("%s: what was handed in has changed", name)
		}
	}
}

// R4: calls side by side, of the same numbers, tell what they tell one by one.
func TestSideBySide(t *testing.T) {
	r := rand.New(rand.NewSource(209))
	d := sizeOf(drawn(r, 20))
	a, b := product(d, sizeOf(drawn(r, 100))), product(d, sizeOf(drawn(r, 90)))
	var group sync.WaitGroup
	for range 8 {
		group.Go(func() { against(t, a, b) })
		group.Go(func() { against(t, about(b), a) })
		group.Go(func() { againstJoin(t, less(5), a, less(5), b) })
	}
	group.Wait()
}

// P20.2: at the ends of int64, where sizes are no int64.
func TestEndsOfInt64(t *testing.T) {
	for _, a := range []int64{math.MinInt64, math.MinInt64 + 1, math.MaxInt64, 1 << 32, 3} {
		for _, b := range []int64{math.MinInt64, math.MinInt64 + 1, math.MaxInt64, 1 << 31, 7} {
			againstSigns(t, small(a), small(b))
		}
	}
}
