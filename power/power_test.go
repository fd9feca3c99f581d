package power_test

import (
	"encoding/binary"
	"fmt"
	"math/big"
	"math/rand"
	"slices"
	"sync"
	"testing"

	"rosette/api"
	"rosette/power"
)

const (
	ones    = 1<<64 - 1
	maxBits = 64 * api.MaxLimbs
)

func of(neg bool, l ...uint64) api.Int { return api.Int{Neg: neg, Mag: l} }

func plus(l ...uint64) api.Int { return of(false, l...) }

func less(l ...uint64) api.Int { return of(true, l...) }

// about is 0 less x.
func about(x api.Int) api.Int { return of(!x.Neg && len(x.Mag) > 0, x.Mag...) }

// sizeOf is x without its sign.
func sizeOf(x api.Int) api.Int { return plus(x.Mag...) }

// signs are x and 0 less x, which is one number, if x is 0.
func signs(x api.Int) []api.Int {
	if len(x.Mag) == 0 {
		return []api.Int{x}
	}
	return []api.Int{x, about(x)}
}

func same(a, b api.Int) bool { return a.Neg == b.Neg && slices.Equal(a.Mag, b.Mag) }

// full has so many limbs, all ones: 2^(64 limbs) - 1.
func full(limbs int) api.Int { return plus(slices.Repeat([]uint64{ones}, limbs)...) }

// two is 2^n.
func two(n int) api.Int {
	m := make([]uint64, n/64+1)
	m[n/64] = 1 << (n % 64)
	return plus(m...)
}

// small is n as a whole number.
func small(n int64) api.Int { return rightOf(big.NewInt(n)) }

// valueOf is what x is, as a whole number of the library.
func valueOf(x api.Int) *big.Int {
	b := make([]byte, 0, 8*len(x.Mag))
	for _, l := range slices.Backward(x.Mag) {
		b = binary.BigEndian.AppendUint64(b, l)
	}
	n := new(big.Int).SetBytes(b)
	if x.Neg {
		n.Neg(n)
	}
	return n
}

// fits tells whether n is not too long.
func fits(n *big.Int) bool { return n.BitLen() <= maxBits }

// rightOf is the right whole number of n, which must not be too long.
func rightOf(n *big.Int) api.Int {
	if !fits(n) {
		panic("too long")
	}
	x := api.Int{Neg: n.Sign() < 0}
	b := new(big.Int).Abs(n).FillBytes(make([]byte, (n.BitLen()+63)/64*8))
	for i := len(b); i > 0; i -= 8 {
		x.Mag = append(x.Mag, binary.BigEndian.Uint64(b[i-8:]))
	}
	return x
}

// more is x and n.
func more(x api.Int, n int64) api.Int {
	return rightOf(new(big.Int).Add(valueOf(x), big.NewInt(n)))
}

// product is a b, which must not be too long.
func product(a, b api.Int) api.Int {
	return rightOf(new(big.Int).Mul(valueOf(a), valueOf(b)))
}

// drawn is a right whole number of so many limbs, of either sign, with runs of noughts and of ones.
func drawn(r *rand.Rand, limbs int) api.Int {
	m := make([]uint64, limbs)
	for i := 0; i < limbs; {
		kind, run := r.Intn(7), 1
		if kind < 3 && r.Intn(3) == 0 {
			run = 1 + r.Intn(limbs)
		}
		for ; run > 0 && i < limbs; run-- {
			m[i] = []uint64{0, ones, ones, 1, 1 << 63, r.Uint64(), r.Uint64() >> r.Intn(64)}[kind]
			i++
		}
	}
	if limbs > 0 {
		m[limbs-1] |= 1 << r.Intn(64)
	}
	return of(limbs > 0 && r.Intn(2) == 0, m...)
}

// noughts are all forms of 0.
func noughts() []api.Int {
	return []api.Int{{}, {Mag: []uint64{}}, {Mag: make([]uint64, 0, 5)}}
}

// wrongs are whole numbers that are not right, each by one fault alone.
func wrongs() []api.Int {
	long := full(api.MaxLimbs + 1)
	return []api.Int{
		{Neg: true}, {Neg: true, Mag: []uint64{}}, {Neg: true, Mag: make([]uint64, 0, 3)}, // no limbs and Neg
		plus(0), less(0), plus(1, 0), less(1, 0), plus(0, 0), plus(ones, ones, 0), plus(append(full(api.MaxLimbs-1).Mag, 0)...), // a 0 on top
		long, about(long), two(maxBits), about(two(maxBits)), full(5000), // limbs
	}
}

// short tells a number of few limbs whole, and the ends of others.
func short(x api.Int) string {
	if n := len(x.Mag); n > 8 {
		return fmt.Sprintf("{%v %d limbs: %v .. %v}", x.Neg, n, x.Mag[:3], x.Mag[n-3:])
	}
	return fmt.Sprint(x)
}

func holdMod(t *testing.T, a, e, m, want api.Int, err api.Errno) {
	t.Helper()
	if x, f := power.Mod(a, e, m); f != err || !same(x, want) {
		t.Errorf("Mod(%s, %s, %s): %s, %v; wanted are %s, %v", short(a), short(e), short(m), short(x), f, short(want), err)
	}
}

func holdInverse(t *testing.T, a, m, want api.Int, err api.Errno) {
	t.Helper()
	if x, f := power.Inverse(a, m); f != err || !same(x, want) {
		t.Errorf("Inverse(%s, %s): %s, %v; wanted are %s, %v", short(a), short(m), short(x), f, short(want), err)
	}
}

func holdOrder(t *testing.T, a, m api.Int, primes []api.Int, powers []int, want api.Int, err api.Errno) {
	t.Helper()
	if x, f := power.Order(a, m, primes, powers); f != err || !same(x, want) {
		t.Errorf("Order(%s, %s, %v, %v): %s, %v; wanted are %s, %v", short(a), short(m), shorts(primes), powers, short(x), f, short(want), err)
	}
}

func holdSymbol(t *testing.T, a, m api.Int, want int, err api.Errno) {
	t.Helper()
	if s, f := power.Symbol(a, m); f != err || s != want {
		t.Errorf("Symbol(%s, %s): %d, %v; wanted are %d, %v", short(a), short(m), s, f, want, err)
	}
}

// shorts tells numbers as short does.
func shorts(l []api.Int) []string {
	s := []string{}
	for _, x := range l {
		s = append(s, short(x))
	}
	return s
}

// smalls are the numbers of l as whole numbers.
func smalls(l ...int64) []api.Int {
	w := []api.Int{}
	for _, n := range l {
		w = append(w, small(n))
	}
	return w
}

// divisorOf is the greatest common divisor by the library.
func divisorOf(a, b *big.Int) *big.Int {
	return new(big.Int).GCD(nil, nil, new(big.Int).Abs(a), new(big.Int).Abs(b))
}

// apart tells whether 1 is the greatest common divisor.
func apart(a, b api.Int) bool {
	return divisorOf(valueOf(a), valueOf(b)).Cmp(big.NewInt(1)) == 0
}

// powerOf is a to the power e, which is not below 0, modulo m, by the library.
func powerOf(a, e, m *big.Int) *big.Int {
	x := new(big.Int).Exp(new(big.Int).Mod(a, m), e, m)
	return x.Mod(x, m)
}

// inverseOf is the inverse by the library, which has none modulo 1.
func inverseOf(a, m *big.Int) *big.Int {
	if m.Cmp(big.NewInt(1)) == 0 {
		return new(big.Int)
	}
	return new(big.Int).ModInverse(a, m)
}

// against holds Mod, and Inverse too, against the library.
func against(t *testing.T, a, e, m api.Int) {
	t.Helper()
	if e.Neg && !apart(a, m) {
		holdMod(t, a, e, m, api.Int{}, api.ErrPower)
		holdInverse(t, a, m, api.Int{}, api.ErrPower)
		return
	}
	base := valueOf(a)
	if e.Neg {
		base = inverseOf(base, valueOf(m))
		holdInverse(t, a, m, rightOf(base), api.OK)
	}
	holdMod(t, a, e, m, rightOf(powerOf(base, valueOf(sizeOf(e)), valueOf(m))), api.OK)
}

// againstInverse holds Inverse against the library.
func againstInverse(t *testing.T, a, m api.Int) {
	t.Helper()
	if !apart(a, m) {
		holdInverse(t, a, m, api.Int{}, api.ErrPower)
		return
	}
	holdInverse(t, a, m, rightOf(inverseOf(valueOf(a), valueOf(m))), api.OK)
}

// allOf is the product of all primes, each to its power, by the library.
func allOf(primes []api.Int, powers []int) *big.Int {
	n := big.NewInt(1)
	for i, p := range primes {
		n.Mul(n, new(big.Int).Exp(valueOf(p), big.NewInt(int64(powers[i])), nil))
	}
	return n
}

// againstOrder holds Order against what P21.3 tells, step by step, by the library; what is handed in is as it must be.
func againstOrder(t *testing.T, a, m api.Int, primes []api.Int, powers []int) api.Errno {
	t.Helper()
	n, mod := allOf(primes, powers), valueOf(m)
	isOne := func(e *big.Int) bool {
		return powerOf(valueOf(a), e, mod).Cmp(new(big.Int).Mod(big.NewInt(1), mod)) == 0
	}
	err := api.OK
	switch {
	case !fits(n):
		err = api.ErrLong
	case !apart(a, m):
		err = api.ErrPower
	case !isOne(n):
		err = api.ErrArg
	}
	if err != api.OK {
		holdOrder(t, a, m, primes, powers, api.Int{}, err)
		return err
	}
	for i, p := range primes {
		for range powers[i] {
			next := new(big.Int).Quo(n, valueOf(p))
			if !isOne(next) {
				break
			}
			n = next
		}
	}
	holdOrder(t, a, m, primes, powers, rightOf(n), api.OK)
	return api.OK
}

// againstSymbol holds Symbol against the library.
func againstSymbol(t *testing.T, a, m api.Int) {
	t.Helper()
	holdSymbol(t, a, m, big.Jacobi(valueOf(a), valueOf(m)), api.OK)
}

// P21.1: what the chapter and DOC.md write out.
func TestExamplesOfMod(t *testing.T) {
	for _, c := range [][4]int64{{3, 5, 7, 5}, {-3, 5, 7, 2}, {3, -1, 7, 5}, {2, 0, 1, 0}, {0, 0, 5, 1}, {5, -3, 1, 0}, {2, 10, 1000, 24}} {
		holdMod(t, small(c[0]), small(c[1]), small(c[2]), small(c[3]), api.OK)
	}
	holdMod(t, small(2), small(5), small(0), api.Int{}, api.ErrZero)
	holdMod(t, small(2), small(5), small(-7), api.Int{}, api.ErrArg)
	holdMod(t, small(2), small(-1), small(4), api.Int{}, api.ErrPower)
}

// P21.2: what the chapter and DOC.md write out.
func TestExamplesOfInverse(t *testing.T) {
	for _, c := range [][3]int64{{3, 7, 5}, {-3, 7, 2}, {0, 1, 0}, {1, 2, 1}} {
		holdInverse(t, small(c[0]), small(c[1]), small(c[2]), api.OK)
	}
	holdInverse(t, small(6), small(9), api.Int{}, api.ErrPower)
	holdInverse(t, small(2), small(4), api.Int{}, api.ErrPower)
}

// P21.3: what the chapter writes out.
func TestExamplesOfOrder(t *testing.T) {
	holdOrder(t, small(2), small(7), smalls(2, 3), []int{1, 1}, small(3), api.OK)
	holdOrder(t, small(3), small(7), smalls(2, 3), []int{1, 1}, small(6), api.OK)
	holdOrder(t, small(2), small(7), smalls(6), []int{1}, small(6), api.OK)
	holdOrder(t, small(1), small(7), nil, nil, small(1), api.OK)
	holdOrder(t, small(2), small(7), nil, nil, api.Int{}, api.ErrArg)
	holdOrder(t, small(2), small(6), smalls(2), []int{1}, api.Int{}, api.ErrPower)
	holdOrder(t, small(2), small(7), smalls(3), nil, api.Int{}, api.ErrShape)
	holdOrder(t, small(2), small(7), smalls(1), []int{1}, api.Int{}, api.ErrArg)
	holdOrder(t, small(2), small(7), smalls(3), []int{65}, api.Int{}, api.ErrArg)
}

// P21.4: what the chapter writes out.
func TestExamplesOfSymbol(t *testing.T) {
	for _, c := range [][3]int64{{2, 7, 1}, {3, 7, -1}, {2, 15, 1}, {6, 15, 0}, {-1, 3, -1}, {5, 1, 1}, {0, 1, 1}, {0, 3, 0}} {
		holdSymbol(t, small(c[0]), small(c[1]), int(c[2]), api.OK)
	}
	holdSymbol(t, small(1), small(2), 0, api.ErrArg)
	holdSymbol(t, small(1), small(-3), 0, api.ErrArg)
}

// modulo is the number from 0 to m - 1 that differs from a by a multiple of m.
func modulo(a, m int64) int64 { return (a%m + m) % m }

// inverseAmong is what is looked for among all numbers from 0 to m - 1.
func inverseAmong(a, m int64) (int64, bool) {
	for x := range m {
		if modulo(a*x-1, m) == 0 {
			return x, true
		}
	}
	return 0, false
}

// P21.1, P21.2: all small numbers of both signs: a 0, a multiple of m, outside of m; m 1; e 0, above and below it.
func TestSmalls(t *testing.T) {
	t.Parallel()
	for m := int64(1); m <= 30; m++ {
		for a := int64(-65); a <= 65; a++ {
			inverse, has := inverseAmong(a, m)
			err := api.OK
			if !has {
				err = api.ErrPower
			}
			holdInverse(t, small(a), small(m), small(inverse), err)
			up, down := modulo(1, m), modulo(1, m)
			for e := range int64(10) {
				holdMod(t, small(a), small(e), small(m), small(up), api.OK)
				if e > 0 {
					holdMod(t, small(a), small(-e), small(m), small(down), err)
				}
				up, down = modulo(up*modulo(a, m), m), modulo(down*inverse, m)
				if e == 0 {
					down = inverse
				}
			}
		}
	}
}

// edges are 0, powers of two, the numbers next to them, and numbers of few limbs, from 0 on.
func edges() []api.Int {
	l := []api.Int{{}, plus(1), plus(3), plus(6), plus(10)}
	for _, n := range []int{2, 32, 63, 64, 65, 127, 128, 192, 256} {
		l = append(l, more(two(n), -1), two(n), more(two(n), 1))
	}
	return append(l, plus(ones-1), plus(ones, 1<<63), plus(0, ones), plus(0, 1, 1), plus(ones, 0, 1), plus(1<<63, 0, 1<<63), full(7))
}

// P21.1, P21.2: all edges as a, of both signs, and as m; e of few bits, and a limb and more.
func TestEdges(t *testing.T) {
	t.Parallel()
	exponents := append(smalls(0, 1, -1, 2, -2, 3, 64, -65), plus(1<<63), plus(ones), less(ones), plus(0, 1), plus(ones, 2), less(1, 1))
	for _, m := range edges()[1:] {
		for _, a := range edges() {
			for _, x := range signs(a) {
				againstInverse(t, x, m)
				for _, e := range exponents {
					against(t, x, e, m)
				}
			}
		}
	}
}

// P21.1: to the power 0 it is 1 modulo m, also of 0 and of what has no inverse; modulo 1 it is 0 at every e; in every form of 0.
func TestNought(t *testing.T) {
	for _, nought := range noughts() {
		for _, a := range append(edges(), nought, less(1), less(6), full(api.MaxLimbs), about(full(api.MaxLimbs))) {
			for _, m := range []api.Int{plus(2), plus(6), plus(ones), full(3), two(maxBits - 1), full(api.MaxLimbs)} {
				holdMod(t, a, nought, m, plus(1), api.OK)
			}
			for _, e := range []api.Int{nought, plus(1), less(1), plus(7), less(ones, 4)} {
				holdMod(t, a, e, plus(1), api.Int{}, api.OK)
			}
			holdInverse(t, a, plus(1), api.Int{}, api.OK)
		}
		holdMod(t, nought, full(api.MaxLimbs), plus(1), api.Int{}, api.OK)
		holdMod(t, nought, about(full(api.MaxLimbs)), plus(1), api.Int{}, api.OK)
		for _, m := range append(edges()[2:], full(api.MaxLimbs)) {
			holdMod(t, nought, plus(1), m, api.Int{}, api.OK)
			holdMod(t, nought, plus(ones, 7), m, api.Int{}, api.OK)
			holdMod(t, nought, less(1), m, api.Int{}, api.ErrPower)
			holdInverse(t, nought, m, api.Int{}, api.ErrPower)
		}
	}
}

// P21.1, P21.2: numbers of all lengths: a below m, as long, and far outside of it, with a common divisor and without.
func TestLengths(t *testing.T) {
	t.Parallel()
	r := rand.New(rand.NewSource(211))
	for range 6000 {
		a, e, m := drawn(r, r.Intn(6)), drawn(r, r.Intn(3)), sizeOf(drawn(r, 1+r.Intn(4)))
		against(t, a, e, m)
		againstInverse(t, a, m)
		if d := drawn(r, 1+r.Intn(2)); r.Intn(3) == 0 {
			against(t, product(a, d), e, product(m, sizeOf(d)))
			againstInverse(t, product(a, d), product(m, sizeOf(d)))
		}
	}
	for _, n := range []int{7, 20, 41, 90} {
		against(t, drawn(r, n), drawn(r, 5), sizeOf(drawn(r, n)))
		against(t, drawn(r, 3*n), drawn(r, n/2), sizeOf(drawn(r, n)))
		against(t, drawn(r, n/2), drawn(r, n/2), sizeOf(drawn(r, n)))
	}
}

// P21.1: e of up to 4096 limbs, of both signs, modulo one limb and a few.
func TestLongExponents(t *testing.T) {
	t.Parallel()
	r := rand.New(rand.NewSource(212))
	for _, e := range []api.Int{full(api.MaxLimbs), two(maxBits - 1), drawn(r, api.MaxLimbs), drawn(r, 1000)} {
		for _, m := range []api.Int{plus(2), plus(7), plus(1000003), plus(ones - 58), plus(ones, ones)} {
			for _, x := range signs(e) {
				against(t, plus(3), x, m)
				against(t, drawn(r, 2), x, m)
			}
		}
	}
}

// longModuli are of so many limbs: full ones, single bits at either end, noughts below or above the middle, and drawn ones.
func longModuli(r *rand.Rand, limbs int) []api.Int {
	middle := 64 * ((limbs + 1) / 2)
	top := two(64*limbs - 1)
	return []api.Int{
		full(limbs), top, more(top, 1), more(two(64*limbs-64), 1), product(two(middle), full(limbs-(limbs+1)/2)), more(product(two(middle), full(limbs-(limbs+1)/2)), 1),
		rightOf(new(big.Int).Add(valueOf(top), valueOf(full((limbs+1)/2)))), sizeOf(drawn(r, limbs)), sizeOf(drawn(r, limbs)),
	}
}

// P21.1: m of 2047 to 4096 limbs, whose products are too long from 2049 on; a next to 0 and to m, and as long as can be.
func TestLongModuli(t *testing.T) {
	t.Parallel()
	for _, limbs := range []int{2047, 2048, 2049, 2050, 3001, api.MaxLimbs - 1, api.MaxLimbs} {
		t.Run(fmt.Sprint(limbs), func(t *testing.T) {
			t.Parallel()
			r := rand.New(rand.NewSource(int64(limbs)))
			for _, m := range longModuli(r, limbs) {
				against(t, more(m, -1), plus(2), m)
				against(t, drawn(r, limbs), plus(3), m)
				against(t, drawn(r, limbs/2+1), plus(2), m)
				against(t, less(3), plus(1), m)
				against(t, full(api.MaxLimbs), plus(2), m)
				against(t, two(64*limbs-2), plus(2), m)
				against(t, m, plus(3), m)
			}
		})
	}
}

// P21.1, P21.2: inverses modulo m of up to 4096 limbs, and a longer than m.
func TestLongInverses(t *testing.T) {
	t.Parallel()
	r := rand.New(rand.NewSource(213))
	top := full(api.MaxLimbs)
	for _, c := range [][2]api.Int{{plus(2), top}, {less(2), top}, {plus(3), top}, {more(top, -1), top}, {two(maxBits - 1), top}, {top, plus(7)}, {about(top), two(maxBits - 1)}, {drawn(r, api.MaxLimbs), sizeOf(drawn(r, 2500))}, {drawn(r, 700), two(64 * 2500)}} {
		againstInverse(t, c[0], c[1])
		against(t, c[0], less(1), c[1])
	}
	against(t, plus(2), less(3), top)
	against(t, less(2), less(2), top)
}

// P21.1, P21.2: ErrPower just where there is a common divisor above 1, at one that is in a single limb and one of many.
func TestCommonDivisors(t *testing.T) {
	t.Parallel()
	r := rand.New(rand.NewSource(214))
	for range 300 {
		a, m, d := drawn(r, 1+r.Intn(4)), sizeOf(drawn(r, 1+r.Intn(4))), sizeOf(drawn(r, 1+r.Intn(3)))
		if len(d.Mag) == 1 && d.Mag[0] == 1 {
			continue
		}
		holdInverse(t, product(a, d), product(m, d), api.Int{}, api.ErrPower)
		holdMod(t, product(a, d), less(uint64(1+r.Intn(9))), product(m, d), api.Int{}, api.ErrPower)
		holdMod(t, d, less(ones, ones), d, api.Int{}, api.ErrPower)
		holdOrder(t, product(a, d), product(m, d), smalls(2), []int{1}, api.Int{}, api.ErrPower)
		against(t, product(a, d), plus(3), product(m, d))
	}
}

// P21.3: all that is small: every a and m, and lists with no primes, one twice, numbers that are no primes, and powers 0.
func TestSmallOrders(t *testing.T) {
	t.Parallel()
	lists := []struct {
		primes []int64
		powers []int
	}{
		{nil, nil}, {[]int64{2}, []int{0}}, {[]int64{2}, []int{1}}, {[]int64{2}, []int{4}}, {[]int64{2, 3}, []int{1, 1}}, {[]int64{3, 2}, []int{2, 3}}, {[]int64{2, 3, 5}, []int{2, 1, 1}},
		{[]int64{2, 2}, []int{1, 2}}, {[]int64{2, 3, 2}, []int{1, 1, 2}}, {[]int64{6}, []int{1}}, {[]int64{4, 3}, []int{2, 1}}, {[]int64{12, 2, 5}, []int{1, 1, 1}}, {[]int64{2, 12, 5}, []int{1, 1, 1}},
		{[]int64{60}, []int{2}}, {[]int64{2, 7, 3}, []int{0, 1, 2}}, {[]int64{2, 3, 5, 7}, []int{3, 2, 0, 1}}, {[]int64{60, 2, 1 << 40}, []int{1, 0, 0}}, {[]int64{2, 3, 4, 5, 6}, []int{1, 1, 1, 1, 1}},
	}
	met := map[api.Errno]int{}
	for _, l := range lists {
		for m := int64(1); m <= 26; m++ {
			for a := int64(-m - 2); a <= 2*m+1; a++ {
				met[againstOrder(t, small(a), small(m), smalls(l.primes...), l.powers)]++
			}
		}
	}
	if len(met) != 3 || met[api.OK] < 1000 || met[api.ErrPower] < 1000 || met[api.ErrArg] < 1000 {
		t.Errorf("not all were met: %v", met)
	}
}

// someOrder is a list of primes with which m's units come to 1.
type someOrder struct {
	m      api.Int
	primes []api.Int
	powers []int
}

// someOrders are of moduli of one limb and of some.
func someOrders() []someOrder {
	return []someOrder{
		{more(two(61), -1), smalls(2, 3, 5, 7, 11, 13, 31, 41, 61, 151, 331, 1321), []int{1, 2, 2, 1, 1, 1, 1, 1, 1, 1, 1, 1}},
		{more(two(127), -1), smalls(2, 3, 7, 19, 43, 73, 127, 337, 5419, 92737, 649657, 77158673929), []int{1, 3, 2, 1, 1, 1, 1, 1, 1, 1, 1, 1}},
		{two(64), smalls(2), []int{62}}, {two(66), smalls(2), []int{64}}, {rightOf(new(big.Int).Exp(big.NewInt(3), big.NewInt(50), nil)), smalls(3, 2), []int{49, 1}},
		{more(two(192), -1), smalls(2, 3, 5, 7, 13, 17, 97, 241, 257, 641, 673, 65537, 6700417, 22253377), []int{40, 20, 3, 2, 2, 2, 1, 1, 1, 1, 1, 1, 1, 1}},
		{plus(1), smalls(2, 3, 1<<40), []int{64, 64, 64}},
	}
}

// P21.3: primes of moduli of one limb and of some, in several orders, some of them joined into numbers that are no primes.
func TestOrders(t *testing.T) {
	t.Parallel()
	r := rand.New(rand.NewSource(215))
	met := map[api.Errno]int{}
	for _, o := range someOrders() {
		for range 12 {
			primes, powers := slices.Clone(o.primes), slices.Clone(o.powers)
			r.Shuffle(len(primes), func(i, j int) {
				primes[i], primes[j] = primes[j], primes[i]
				powers[i], powers[j] = powers[j], powers[i]
			})
			met[againstOrder(t, drawn(r, 1+r.Intn(4)), o.m, primes, powers)]++
			i, j := r.Intn(len(primes)), r.Intn(len(primes))
			primes[i] = product(primes[i], primes[j])
			met[againstOrder(t, drawn(r, 1+r.Intn(4)), o.m, primes, powers)]++
			powers[j] = max(powers[j]-1, 0)
			met[againstOrder(t, small(int64(r.Intn(9))), o.m, primes, powers)]++
		}
	}
	if len(met) != 3 || met[api.OK] < 50 || met[api.ErrPower] < 5 || met[api.ErrArg] < 5 {
		t.Errorf("not all were met: %v", met)
	}
}

// P21.3: the powers 0 and 64 may be, and -1 and 65 not, at each place of a list.
func TestPowersOfPrimes(t *testing.T) {
	holdOrder(t, plus(3), two(66), smalls(2), []int{64}, two(64), api.OK)
	holdOrder(t, plus(3), two(67), smalls(2), []int{64}, api.Int{}, api.ErrArg)
	holdOrder(t, plus(3), two(67), smalls(2, 2), []int{1, 64}, two(65), api.OK)
	holdOrder(t, plus(3), two(67), smalls(2, 2), []int{64, 64}, two(65), api.OK)
	holdOrder(t, plus(3), plus(7), smalls(2, 3, 5), []int{1, 1, 0}, plus(6), api.OK)
	holdOrder(t, plus(3), plus(7), smalls(2, 3), []int{0, 1}, api.Int{}, api.ErrArg)
	holdOrder(t, plus(3), plus(7), smalls(2, 3, 2), []int{0, 1, 64}, plus(6), api.OK)
	for place := range 3 {
		for _, n := range []int{-1, 65, -1 << 63, 1<<63 - 1} {
			powers := []int{64, 1, 0}
			powers[place] = n
			holdOrder(t, plus(3), plus(7), smalls(2, 3, 5), powers, api.Int{}, api.ErrArg)
		}
		for _, n := range smalls(1, 0, -1, -2, -7, -1<<63) {
			primes := smalls(2, 3, 5)
			primes[place] = n
			holdOrder(t, plus(3), plus(7), primes, []int{1, 1, 0}, api.Int{}, api.ErrArg)
		}
	}
}

// P21.3: ErrLong just where the product has more than 4096 limbs, of one prime, of some, of many.
func TestLongOrders(t *testing.T) {
	t.Parallel()
	top := full(api.MaxLimbs)
	half := more(two(maxBits/2), -1)
	for _, a := range smalls(1, 4, 0, 6) {
		m := plus(15)
		againstOrder(t, a, m, []api.Int{two(4096), plus(2)}, []int{63, 64})
		againstOrder(t, a, m, []api.Int{two(4096), two(64), plus(2)}, []int{63, 63, 63})
		againstOrder(t, a, m, []api.Int{two(4096), two(64), plus(2)}, []int{63, 63, 64})
		againstOrder(t, a, m, []api.Int{plus(2), two(4096)}, []int{0, 64})
		againstOrder(t, a, m, []api.Int{two(maxBits - 1)}, []int{1})
		againstOrder(t, a, m, []api.Int{two(maxBits - 1), plus(2)}, []int{1, 0})
		againstOrder(t, a, m, []api.Int{two(maxBits - 1), plus(2)}, []int{1, 1})
		againstOrder(t, a, m, []api.Int{two(maxBits - 1), two(maxBits - 1), two(maxBits - 1), plus(3)}, []int{1, 0, 0, 1})
		againstOrder(t, a, m, []api.Int{top}, []int{1})
		againstOrder(t, a, m, []api.Int{top}, []int{2})
		againstOrder(t, a, m, []api.Int{half, more(half, 2)}, []int{1, 1})
		againstOrder(t, a, m, []api.Int{more(half, 2), half, plus(3)}, []int{1, 1, 1})
		againstOrder(t, a, m, []api.Int{more(half, 2), more(half, 2)}, []int{1, 1})
	}
	holdOrder(t, plus(1), plus(7), slices.Repeat(smalls(2), 4095), slices.Repeat([]int{64}, 4095), plus(1), api.OK)
	holdOrder(t, plus(1), plus(7), slices.Repeat(smalls(2), 4096), slices.Repeat([]int{64}, 4096), api.Int{}, api.ErrLong)
	holdOrder(t, plus(2), plus(7), append(slices.Repeat(smalls(2), 1<<17), small(3)), append(slices.Repeat([]int{1}, 1<<17), 2), plus(3), api.OK)
}

// P21.3: m of up to 4096 limbs: 2 to the power of 64 times them is alike 1 modulo the number of so many full ones.
func TestOrdersOfLongModuli(t *testing.T) {
	t.Parallel()
	for _, limbs := range []int{2048, 4096} {
		m := full(limbs)
		steps := small(int64(64 * limbs))
		holdOrder(t, plus(2), m, smalls(2, 3), []int{20, 1}, steps, api.OK)
		holdOrder(t, more(about(m), 2), m, smalls(3, 2), []int{1, 19}, steps, api.OK)
		holdOrder(t, less(1), m, smalls(2), []int{3}, plus(2), api.OK)
		holdOrder(t, plus(1), m, smalls(2, 3), []int{1, 1}, plus(1), api.OK)
		holdOrder(t, plus(2), m, smalls(2, 3), []int{10, 1}, api.Int{}, api.ErrArg)
		holdOrder(t, plus(3), m, smalls(2), []int{64}, api.Int{}, api.ErrPower)
	}
}

// alikeSquare tells whether a is alike a square modulo p.
func alikeSquare(a, p int64) bool {
	for x := range p {
		if modulo(x*x-a, p) == 0 {
			return true
		}
	}
	return false
}

// symbolAmong is the symbol by definition, from the primes of m.
func symbolAmong(a, m int64) int {
	s := 1
	for p := int64(2); m > 1; p++ {
		for m%p == 0 {
			m /= p
			switch {
			case a%p == 0:
				s = 0
			case !alikeSquare(a, p):
				s = -s
			}
		}
	}
	return s
}

// P21.4: all small numbers by definition: m 1, primes, products, squares; a of both signs, 0, multiples, with many twos.
func TestSmallSymbols(t *testing.T) {
	t.Parallel()
	for m := int64(1); m <= 151; m += 2 {
		for a := int64(-200); a <= 200; a++ {
			holdSymbol(t, small(a), small(m), symbolAmong(a, m), api.OK)
		}
		for n := range 63 {
			holdSymbol(t, small(-1<<n), small(m), symbolAmong(-1<<n, m), api.OK)
			holdSymbol(t, small(5<<n), small(m), symbolAmong(5<<n, m), api.OK)
		}
	}
}

// P21.4: all edges as a, of both signs, and the odd ones as m.
func TestSymbolEdges(t *testing.T) {
	t.Parallel()
	for _, m := range edges()[1:] {
		if m.Mag[0]%2 == 0 {
			continue
		}
		for _, a := range edges() {
			for _, x := range signs(a) {
				againstSymbol(t, x, m)
			}
		}
	}
}

// odd is a drawn odd number above 0 of so many limbs.
func odd(r *rand.Rand, limbs int) api.Int {
	m := sizeOf(drawn(r, limbs))
	m.Mag[0] |= 1
	return m
}

// P21.4: numbers of all lengths, shorter than m, as long, and longer; twos in a by bits and by whole limbs; with a common divisor.
func TestSymbolLengths(t *testing.T) {
	t.Parallel()
	r := rand.New(rand.NewSource(216))
	met := map[int]int{}
	for range 8000 {
		a, m := drawn(r, r.Intn(6)), odd(r, 1+r.Intn(5))
		switch r.Intn(4) {
		case 0:
			a = product(a, two(r.Intn(300)))
		case 1:
			d := odd(r, 1+r.Intn(2))
			a, m = product(a, d), product(m, d)
		}
		againstSymbol(t, a, m)
		s, _ := power.Symbol(a, m)
		met[s]++
	}
	if len(met) != 3 || met[0] < 1000 || met[1] < 1000 || met[-1] < 1000 {
		t.Errorf("not all were met: %v", met)
	}
	for _, n := range []int{12, 40, 100, 300} {
		againstSymbol(t, drawn(r, n), odd(r, n))
		againstSymbol(t, drawn(r, 3*n), odd(r, n))
		againstSymbol(t, drawn(r, n), odd(r, 2*n))
	}
}

// P21.4: up to 4096 limbs: 2^(64 n) - 1 is 7 modulo 8, and 3 divides it; of many limbs of noughts there are as many twos.
func TestLongSymbols(t *testing.T) {
	t.Parallel()
	r := rand.New(rand.NewSource(217))
	top := full(api.MaxLimbs)
	for _, c := range []struct {
		a    api.Int
		want int
	}{{plus(1), 1}, {less(1), -1}, {plus(2), 1}, {less(2), -1}, {plus(3), 0}, {less(17), 0}, {two(maxBits - 1), 1}, {about(two(maxBits - 1)), -1}, {top, 0}, {more(top, -1), -1}, {api.Int{}, 0}, {plus(4), 1}} {
		holdSymbol(t, c.a, top, c.want, api.OK)
	}
	below := more(two(maxBits-1), 3)
	for _, c := range []struct {
		a    api.Int
		want int
	}{{plus(1), 1}, {less(1), -1}, {plus(2), -1}, {two(maxBits - 1), -1}, {two(maxBits - 2), 1}, {about(two(maxBits - 1)), 1}, {below, 0}} {
		holdSymbol(t, c.a, below, c.want, api.OK)
	}
	againstSymbol(t, drawn(r, 1500), odd(r, 1500))
	againstSymbol(t, drawn(r, api.MaxLimbs), plus(7))
	againstSymbol(t, drawn(r, api.MaxLimbs), odd(r, 30))
	againstSymbol(t, plus(5), odd(r, api.MaxLimbs))
	againstSymbol(t, product(two(64*3000), plus(1001)), odd(r, api.MaxLimbs))
}

// P21.4: ErrArg for m even, 0 or below 0, at all a.
func TestSymbolRefused(t *testing.T) {
	l := append(noughts(), smalls(2, 4, 6, -1, -2, -3, -15)...)
	for _, m := range append(l, plus(1<<63), plus(0, 1), plus(ones-1, 1), less(ones), less(1, 1), two(maxBits-1), more(full(api.MaxLimbs), -1), about(full(api.MaxLimbs))) {
		for _, a := range append(edges(), less(1), less(3), m, full(api.MaxLimbs)) {
			holdSymbol(t, a, m, 0, api.ErrArg)
		}
	}
}

// moduliRefused are moduli that are not above 0, each with its error.
func moduliRefused() map[api.Errno][]api.Int {
	return map[api.Errno][]api.Int{
		api.ErrZero: noughts(),
		api.ErrArg:  {less(1), less(2), less(7), less(ones), less(0, 1), about(full(api.MaxLimbs))},
	}
}

// P21.1 to P21.3: ErrZero for m 0, ErrArg for m below 0, ahead of all that a, e and the lists would bring.
func TestModuliRefused(t *testing.T) {
	for err, moduli := range moduliRefused() {
		for _, m := range moduli {
			for _, a := range []api.Int{{}, plus(1), less(1), plus(2), less(7), m, full(api.MaxLimbs)} {
				holdInverse(t, a, m, api.Int{}, err)
				for _, e := range []api.Int{{}, plus(1), less(1), plus(5), less(ones, 1), full(api.MaxLimbs)} {
					holdMod(t, a, e, m, api.Int{}, err)
				}
				holdOrder(t, a, m, nil, nil, api.Int{}, err)
				holdOrder(t, a, m, smalls(2), []int{1}, api.Int{}, err)
				holdOrder(t, a, m, smalls(2), nil, api.Int{}, err)
				holdOrder(t, a, m, nil, []int{1}, api.Int{}, err)
				holdOrder(t, a, m, smalls(1), []int{65}, api.Int{}, err)
				holdOrder(t, a, m, []api.Int{two(maxBits - 1)}, []int{2}, api.Int{}, err)
			}
		}
	}
}

// R8, P21.1, P21.2, P21.4: ErrArg for what is not right, at each place of each call, whatever stands beside it; all else is 0.
func TestRefused(t *testing.T) {
	others := append(wrongs(), api.Int{}, plus(1), less(1), plus(6), less(9), full(3), full(api.MaxLimbs), about(full(api.MaxLimbs)))
	for _, x := range wrongs() {
		for _, y := range others {
			holdInverse(t, x, y, api.Int{}, api.ErrArg)
			holdInverse(t, y, x, api.Int{}, api.ErrArg)
			holdSymbol(t, x, y, 0, api.ErrArg)
			holdSymbol(t, y, x, 0, api.ErrArg)
			for _, z := range []api.Int{{}, plus(1), plus(4), less(1), x} {
				holdMod(t, x, y, z, api.Int{}, api.ErrArg)
				holdMod(t, y, x, z, api.Int{}, api.ErrArg)
				holdMod(t, z, x, y, api.Int{}, api.ErrArg)
				holdMod(t, z, y, x, api.Int{}, api.ErrArg)
			}
		}
	}
}

// R8, P21.3: ErrArg for what is not right, as a, as m, and at each place of the primes, ahead of all other errors.
func TestOrderRefused(t *testing.T) {
	lists := [][]int{{1, 1, 1}, {0, 0, 0}, nil, {1}, {1, 1, 1, 1}, {-1, 65, 1}}
	for _, x := range wrongs() {
		for _, powers := range lists {
			for _, m := range []api.Int{plus(7), plus(1), plus(6), {}, less(7), x} {
				for _, primes := range [][]api.Int{smalls(2, 3, 5), smalls(1, 0, -1), {two(maxBits - 1), plus(2), plus(2)}} {
					holdOrder(t, x, m, primes, powers, api.Int{}, api.ErrArg)
					holdOrder(t, plus(2), x, primes, powers, api.Int{}, api.ErrArg)
					for place := range primes {
						l := slices.Clone(primes)
						l[place] = x
						holdOrder(t, plus(2), m, l, powers, api.Int{}, api.ErrArg)
						holdOrder(t, plus(1), m, l, powers, api.Int{}, api.ErrArg)
					}
				}
			}
		}
	}
}

// P21.3: ErrShape ahead of what primes and powers may not be; that ahead of ErrLong; that ahead of ErrPower; that ahead of ErrArg.
func TestOrderOfErrors(t *testing.T) {
	long := []api.Int{two(maxBits - 1), plus(2)}
	for _, a := range smalls(0, 1, 2, 3, -4) {
		for _, c := range []struct {
			primes []api.Int
			powers []int
			err    api.Errno
		}{
			{smalls(1), nil, api.ErrShape}, {nil, []int{65}, api.ErrShape}, {smalls(2, 0), []int{65}, api.ErrShape}, {smalls(2), []int{-1, 1}, api.ErrShape}, {long, []int{64}, api.ErrShape}, {long, []int{64, 1, 1}, api.ErrShape},
			{append(slices.Clone(long), plus(1)), []int{1, 1, 1}, api.ErrArg}, {append(smalls(-2), long...), []int{1, 1, 1}, api.ErrArg}, {long, []int{64, 65}, api.ErrArg}, {long, []int{-1, 64}, api.ErrArg},
			{long, []int{1, 1}, api.ErrLong}, {long, []int{2, 0}, api.ErrLong},
		} {
			for _, m := range smalls(1, 2, 6, 7) {
				holdOrder(t, a, m, c.primes, c.powers, api.Int{}, c.err)
			}
		}
	}
	for _, powers := range [][]int{{0}, {1}, {5}} {
		holdOrder(t, plus(2), plus(6), smalls(2), powers, api.Int{}, api.ErrPower)
		holdOrder(t, api.Int{}, plus(2), smalls(3), powers, api.Int{}, api.ErrPower)
	}
	holdOrder(t, plus(2), plus(6), nil, nil, api.Int{}, api.ErrPower)
	holdOrder(t, plus(5), plus(7), smalls(2), []int{1}, api.Int{}, api.ErrArg)
}

// spoil overwrites all that a list has, its spare room too.
func spoil(l []uint64) {
	l = l[:cap(l)]
	for i := range l {
		l[i] = 7
	}
}

// roomy is x with three limbs of spare room, and all that memory.
func roomy(x api.Int) (api.Int, []uint64) {
	room := append(slices.Clone(x.Mag), 11, 12, 13)
	return of(x.Neg, room[:len(x.Mag)]...), room
}

// asked is what all calls are asked of: Mod of a, e and m, Order of a and m and the lists, Inverse and Symbol of a and m.
type asked struct {
	a, e, m api.Int
	primes  []api.Int
	powers  []int
}

// calls are of all that tell a number.
func calls(q asked) map[string]func() api.Int {
	return map[string]func() api.Int{
		"Mod":     func() api.Int { x, _ := power.Mod(q.a, q.e, q.m); return x },
		"Inverse": func() api.Int { x, _ := power.Inverse(q.a, q.m); return x },
		"Order":   func() api.Int { x, _ := power.Order(q.a, q.m, q.primes, q.powers); return x },
		"Symbol":  func() api.Int { s, _ := power.Symbol(q.a, q.m); return small(int64(s)) },
	}
}

// roomyOf is what is asked in memory with spare room, and a call that tells whether any of that memory has changed.
func roomyOf(q asked) (asked, func() bool) {
	rooms, kept := [][]uint64{}, [][]uint64{}
	take := func(x api.Int) api.Int {
		y, room := roomy(x)
		rooms, kept = append(rooms, room), append(kept, slices.Clone(room))
		return y
	}
	w := asked{a: take(q.a), e: take(q.e), m: take(q.m)}
	for _, p := range append(slices.Clone(q.primes), smalls(1, 2, 3)...) {
		w.primes = append(w.primes, take(p))
	}
	w.powers = append(slices.Clone(q.powers), 21, 22, 23)
	primes, powers := slices.Clone(w.primes), slices.Clone(w.powers)
	changed := func() bool {
		p, n := w.primes[:len(primes)], w.powers[:len(powers)]
		// The primes' own memory, as well as what stands in it.
		at := func(x, y api.Int) bool { return same(x, y) && &x.Mag[0] == &y.Mag[0] && cap(x.Mag) == cap(y.Mag) }
		return !slices.EqualFunc(rooms, kept, slices.Equal) || !slices.EqualFunc(p, primes, at) || !slices.Equal(n, powers)
	}
	w.primes, w.powers = w.primes[:len(q.primes)], w.powers[:len(q.powers)]
	return w, changed
}

// askedForMemory are of all kinds: powers 0 and 1 and more of both signs, what is below m and what is not, orders of some primes, one and none, and what is refused.
func askedForMemory() []asked {
	r := rand.New(rand.NewSource(218))
	l := []asked{
		{plus(3), api.Int{}, plus(7), smalls(2, 3), []int{1, 1}}, {plus(3), plus(1), plus(7), smalls(6), []int{1}}, {less(3), less(1), plus(7), smalls(7), []int{0}}, {plus(1), plus(5), plus(7), nil, nil}, {plus(5), less(5), plus(1), smalls(5), []int{2}},
		{plus(2), less(1), plus(6), smalls(2), []int{1}}, {plus(2), plus(1), plus(7), smalls(2, 1), []int{1, 1}}, {plus(2), plus(1), api.Int{}, smalls(2), nil}, {plus(9), plus(2), plus(7), smalls(3, 2), []int{64, 65}}, {less(1), plus(2), full(2100), smalls(2), []int{1}},
	}
	for _, o := range someOrders() {
		for range 6 {
			l = append(l, asked{drawn(r, 1+r.Intn(4)), drawn(r, 1+r.Intn(2)), o.m, o.primes, o.powers})
		}
	}
	return l
}

// R3: numbers and lists are only read, their spare room too; answers are the caller's own.
func TestMemory(t *testing.T) {
	t.Parallel()
	for _, q := range askedForMemory() {
		w, changed := roomyOf(q)
		for name, call := range calls(w) {
			first, second := call(), call()
			keep := of(first.Neg, slices.Clone(first.Mag)...)
			spoil(second.Mag)
			if !same(first, keep) {
				t.Errorf("%s of %v: two answers share memory", name, q)
			}
			spoil(first.Mag)
			if changed() {
				t.Fatalf("%s of %v: what was handed in has changed", name, q)
			}
			if again := call(); !same(again, keep) {
				t.Errorf("%s of %v: the answer has changed", name, q)
			}
		}
	}
}

// R3: one number handed in at all places is only read, and is no answer's memory.
func TestOneMemory(t *testing.T) {
	for _, n := range []api.Int{plus(7, 1), plus(5), plus(1)} {
		x, room := roomy(n)
		kept := slices.Clone(room)
		for name, call := range calls(asked{x, x, x, []api.Int{x, x}, []int{1, 1}}) {
			spoil(call().Mag)
			if !slices.Equal(room, kept) {
				t.Fatalf("%s: what was handed in has changed", name)
			}
		}
	}
}

// R4: calls side by side, of the same numbers, tell what they tell one by one.
func TestSideBySide(t *testing.T) {
	r := rand.New(rand.NewSource(219))
	a, e, m := drawn(r, 30), drawn(r, 3), odd(r, 20)
	o := someOrders()[0]
	var group sync.WaitGroup
	for range 8 {
		group.Go(func() { against(t, a, e, m) })
		group.Go(func() { againstInverse(t, a, m) })
		group.Go(func() { againstSymbol(t, a, m) })
		group.Go(func() { againstOrder(t, plus(2), o.m, o.primes, o.powers) })
	}
	group.Wait()
}
