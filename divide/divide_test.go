package divide_test

import (
	"encoding/binary"
	"fmt"
	"math"
	"math/big"
	"math/rand"
	"slices"
	"sync"
	"testing"

	"rosette/api"
	"rosette/divide"
)

const (
	ones    = 1<<64 - 1
	maxBits = 64 * api.MaxLimbs
)

func of(neg bool, l ...uint64) api.Int { return api.Int{Neg: neg, Mag: l} }

func plus(l ...uint64) api.Int { return of(false, l...) }

func less(l ...uint64) api.Int { return of(true, l...) }

// about is 0 less x.
func about(x api.Int) api.Int { return of(!x.Neg && len(x.Mag) > 0, x.Mag...) }

// sizeOf is x without its sign.
func sizeOf(x api.Int) api.Int { return plus(x.Mag...) }

func same(a, b api.Int) bool { return a.Neg == b.Neg && slices.Equal(a.Mag, b.Mag) }

// full has so many limbs, all ones: 2^(64 limbs) - 1.
func full(limbs int) api.Int { return plus(slices.Repeat([]uint64{ones}, limbs)...) }

// power is 2^n.
func power(n int) api.Int {
	m := make([]uint64, n/64+1)
	m[n/64] = 1 << (n % 64)
	return plus(m...)
}

// small is n as a whole number.
func small(n int64) api.Int { return rightOf(big.NewInt(n)) }

// valueOf is what x is, as a whole number of the library.
func valueOf(x api.Int) *big.Int {
	b := make([]byte, 0, 8*len(x.Mag))
	for _, l := range slices.Backward(x.Mag) {
		b = binary.BigEndian.AppendUint64(b, l)
	}
	n := new(big.Int).SetBytes(b)
	if x.Neg {
		n.Neg(n)
	}
	return n
}

// fits tells whether n is not too long.
func fits(n *big.Int) bool { return n.BitLen() <= maxBits }

// rightOf is the right whole number of n, which must not be too long.
func rightOf(n *big.Int) api.Int {
	if !fits(n) {
		panic("too long")
	}
	x := api.Int{Neg: n.Sign() < 0}
	b := new(big.Int).Abs(n).FillBytes(make([]byte, (n.BitLen()+63)/64*8))
	for i := len(b); i > 0; i -= 8 {
		x.Mag = append(x.Mag, binary.BigEndian.Uint64(b[i-8:]))
	}
	return x
}

// more is x and n.
func more(x api.Int, n int64) api.Int {
	return rightOf(new(big.Int).Add(valueOf(x), big.NewInt(n)))
}

// made is q b + r.
func made(q, b, r api.Int) *big.Int {
	n := new(big.Int).Mul(valueOf(q), valueOf(b))
	return n.Add(n, valueOf(r))
}

// drawn is a right whole number of so many limbs, of either sign, with runs of noughts and of ones.
func drawn(r *rand.Rand, limbs int) api.Int {
	m := make([]uint64, limbs)
	for i := 0; i < limbs; {
		kind, run := r.Intn(7), 1
		if kind < 3 && r.Intn(3) == 0 {
			run = 1 + r.Intn(limbs)
		}
		for ; run > 0 && i < limbs; run-- {
			m[i] = []uint64{0, ones, ones, 1, 1 << 63, r.Uint64(), r.Uint64() >> r.Intn(64)}[kind]
			i++
		}
	}
	if limbs > 0 {
		m[limbs-1] |= 1 << r.Intn(64)
	}
	return of(limbs > 0 && r.Intn(2) == 0, m...)
}

// noughts are all forms of 0.
func noughts() []api.Int {
	return []api.Int{{}, {Mag: []uint64{}}, {Mag: make([]uint64, 0, 5)}}
}

// wrongs are whole numbers that are not right, each by one fault alone.
func wrongs() []api.Int {
	long := full(api.MaxLimbs + 1)
	return []api.Int{
		{Neg: true}, {Neg: true, Mag: []uint64{}}, {Neg: true, Mag: make([]uint64, 0, 3)}, // no limbs and Neg
		plus(0), less(0), plus(1, 0), less(1, 0), plus(0, 0), plus(ones, ones, 0), plus(append(full(api.MaxLimbs-1).Mag, 0)...), // a 0 on top
		long, about(long), power(maxBits), about(power(maxBits)), full(5000), // limbs
	}
}

// short tells a number of few limbs whole, and the ends of others.
func short(x api.Int) string {
	if n := len(x.Mag); n > 8 {
		return fmt.Sprintf("{%v %d limbs: %v .. %v}", x.Neg, n, x.Mag[:3], x.Mag[n-3:])
	}
	return fmt.Sprint(x)
}

func holdFloor(t *testing.T, a, b, q, r api.Int, err api.Errno) {
	t.Helper()
	if x, y, e := divide.Floor(a, b); e != err || !same(x, q) || !same(y, r) {
		t.Errorf("Floor(%s, %s): %s, %s, %v; wanted are %s, %s, %v", short(a), short(b), short(x), short(y), e, short(q), short(r), err)
	}
}

func holdTrunc(t *testing.T, a, b, q, r api.Int, err api.Errno) {
	t.Helper()
	if x, y, e := divide.Trunc(a, b); e != err || !same(x, q) || !same(y, r) {
		t.Errorf("Trunc(%s, %s): %s, %s, %v; wanted are %s, %s, %v", short(a), short(b), short(x), short(y), e, short(q), short(r), err)
	}
}

func holdExact(t *testing.T, a, b, q api.Int, whole bool, err api.Errno) {
	t.Helper()
	if x, ok, e := divide.Exact(a, b); e != err || ok != whole || !same(x, q) {
		t.Errorf("Exact(%s, %s): %s, %v, %v; wanted are %s, %v, %v", short(a), short(b), short(x), ok, e, short(q), whole, err)
	}
}

func holdMod(t *testing.T, a, m, r api.Int, err api.Errno) {
	t.Helper()
	if x, e := divide.Mod(a, m); e != err || !same(x, r) {
		t.Errorf("Mod(%s, %s): %s, %v; wanted are %s, %v", short(a), short(m), short(x), e, short(r), err)
	}
}

// holdAll holds all four calls against what the quotient cut off and its rest are; b is not 0.
func holdAll(t *testing.T, a, b, q, r api.Int) {
	t.Helper()
	holdTrunc(t, a, b, q, r, api.OK)
	if len(r.Mag) == 0 {
		holdExact(t, a, b, q, true, api.OK)
	} else {
		holdExact(t, a, b, api.Int{}, false, api.OK)
	}
	if len(r.Mag) > 0 && a.Neg != b.Neg {
		q, r = more(q, -1), rightOf(new(big.Int).Add(valueOf(r), valueOf(b)))
	}
	holdFloor(t, a, b, q, r, api.OK)
	if b.Neg {
		holdMod(t, a, b, api.Int{}, api.ErrArg)
	} else {
		holdMod(t, a, b, r, api.OK)
	}
}

// holdRefused holds all four calls against one error.
func holdRefused(t *testing.T, a, b api.Int, err api.Errno) {
	t.Helper()
	holdFloor(t, a, b, api.Int{}, api.Int{}, err)
	holdTrunc(t, a, b, api.Int{}, api.Int{}, err)
	holdExact(t, a, b, api.Int{}, false, err)
	holdMod(t, a, b, api.Int{}, err)
}

// against holds all four calls against the library.
func against(t *testing.T, a, b api.Int) {
	t.Helper()
	q, r := new(big.Int).QuoRem(valueOf(a), valueOf(b), new(big.Int))
	holdAll(t, a, b, rightOf(q), rightOf(r))
}

// againstSigns holds all four calls against the library, at all signs of both.
func againstSigns(t *testing.T, a, b api.Int) {
	t.Helper()
	for _, x := range []api.Int{a, about(a)} {
		for _, y := range []api.Int{b, about(b)} {
			against(t, x, y)
		}
	}
}

// P17.1 to P17.3: what the chapter and DOC.md write out.
func TestExamples(t *testing.T) {
	for _, c := range [][4]int64{{7, 2, 3, 1}, {-7, 2, -4, 1}, {7, -2, -4, -1}, {-7, -2, 3, -1}, {0, -5, 0, 0}, {6, 3, 2, 0}} {
		holdFloor(t, small(c[0]), small(c[1]), small(c[2]), small(c[3]), api.OK)
	}
	for _, c := range [][4]int64{{-7, 2, -3, -1}, {7, -2, -3, 1}, {-7, -2, 3, -1}} {
		holdTrunc(t, small(c[0]), small(c[1]), small(c[2]), small(c[3]), api.OK)
	}
	holdExact(t, small(6), small(-3), small(-2), true, api.OK)
	holdExact(t, small(7), small(3), api.Int{}, false, api.OK)
	holdExact(t, small(0), small(3), api.Int{}, true, api.OK)
	holdMod(t, small(-7), small(3), small(2), api.OK)
	holdMod(t, small(7), small(1), small(0), api.OK)
	holdMod(t, small(-6), small(3), small(0), api.OK)
	holdFloor(t, small(1), small(0), api.Int{}, api.Int{}, api.ErrZero)
	holdMod(t, small(1), small(0), api.Int{}, api.ErrZero)
	holdMod(t, small(1), small(-2), api.Int{}, api.ErrArg)
	holdFloor(t, api.Int{Neg: true}, small(0), api.Int{}, api.Int{}, api.ErrArg)
}

// P17.1 to P17.3: all small numbers, as the language divides them.
func TestSmalls(t *testing.T) {
	for a := int64(-130); a <= 130; a++ {
		for b := int64(-70); b <= 70; b++ {
			if b != 0 {
				holdAll(t, small(a), small(b), small(a/b), small(a%b))
			}
		}
	}
	for _, a := range []int64{math.MinInt64, math.MinInt64 + 1, -1 << 32, 1 << 32, math.MaxInt64 - 1, math.MaxInt64} {
		for _, b := range []int64{math.MinInt64, math.MinInt64 + 1, -1 << 32, -10, -3, -2, 1, 2, 3, 10, 1 << 32, math.MaxInt64 - 1, math.MaxInt64} {
			holdAll(t, small(a), small(b), small(a/b), small(a%b))
		}
	}
}

// edges are 0, powers of two, the numbers next to them, and numbers of few limbs, from 0 on.
func edges() []api.Int {
	l := []api.Int{{}, plus(1), plus(3), plus(5), plus(6), plus(7), plus(10)}
	for _, n := range []int{2, 31, 32, 33, 62, 63, 64, 65, 126, 127, 128, 129, 191, 192, 193, 256, 400} {
		l = append(l, more(power(n), -1), power(n), more(power(n), 1))
	}
	return append(l,
		plus(ones-1), plus(ones, 1), plus(0, ones), plus(1, ones), plus(ones, 1<<63-1), plus(ones, 1<<63), plus(0, 1, 1), plus(ones, 0, 1), plus(ones, ones, 1), plus(0, 0, ones), plus(ones-1, ones, ones),
		plus(1<<63, 0, 1<<63), plus(ones, 0, 1<<63), plus(0, ones, 1<<63-1), plus(0xaaaaaaaaaaaaaaaa, 0x5555555555555555), plus(1, 2, 3, 4, 5, 6, 7), full(7))
}

// P17.1 to P17.3: all pairs of edges, of all signs.
func TestEdges(t *testing.T) {
	t.Parallel()
	for _, a := range edges() {
		for _, b := range edges() {
			if len(b.Mag) > 0 {
				againstSigns(t, a, b)
			}
		}
	}
}

// P17.1 to P17.3: 0 over anything is 0, and leaves 0, in every form of it.
func TestNought(t *testing.T) {
	for _, nought := range noughts() {
		for _, b := range append(edges()[1:], full(api.MaxLimbs), power(maxBits-1)) {
			holdAll(t, nought, b, api.Int{}, api.Int{})
			holdAll(t, nought, about(b), api.Int{}, api.Int{})
		}
	}
}

// P17.1 to P17.3: a over 1, -1, itself, itself turned about, and twice its size.
func TestOneAndItself(t *testing.T) {
	for _, size := range append(edges()[1:], full(api.MaxLimbs), power(maxBits-1), more(power(maxBits-1), 1), drawn(rand.New(rand.NewSource(170)), api.MaxLimbs)) {
		for _, a := range []api.Int{size, about(size)} {
			holdAll(t, a, plus(1), a, api.Int{})
			holdAll(t, a, less(1), about(a), api.Int{})
			holdAll(t, a, a, plus(1), api.Int{})
			holdAll(t, a, about(a), less(1), api.Int{})
			if twice := new(big.Int).Lsh(valueOf(a), 1); fits(twice) {
				holdAll(t, a, rightOf(twice), api.Int{}, a)
			}
		}
	}
}

// P17.1 to P17.3: numbers of all lengths, shorter than the divisor, as long, and longer.
func TestLengths(t *testing.T) {
	t.Parallel()
	r := rand.New(rand.NewSource(171))
	for n := range 30 {
		for m := 1; m <= 20; m++ {
			for range 6 {
				against(t, drawn(r, n), drawn(r, m))
			}
		}
	}
	for range 20000 {
		against(t, drawn(r, r.Intn(7)), drawn(r, 1+r.Intn(4)))
	}
}

// P17.1 to P17.3: a that is shorter than b, or just below it, is the rest, to which Floor puts b where the signs are unlike.
func TestShorter(t *testing.T) {
	r := rand.New(rand.NewSource(172))
	for _, n := range []int{1, 2, 3, 10, 2048, api.MaxLimbs} {
		b := sizeOf(drawn(r, n))
		for _, a := range []api.Int{{}, plus(1), sizeOf(drawn(r, n-1)), sizeOf(drawn(r, n/2)), more(b, -1)} {
			if valueOf(a).Cmp(valueOf(b)) >= 0 {
				continue
			}
			for _, x := range []api.Int{a, about(a)} {
				holdAll(t, x, b, api.Int{}, x)
				holdAll(t, x, about(b), api.Int{}, x)
			}
		}
	}
}

// P17.1 to P17.3: many limbs, up to 4096, of both.
func TestLongs(t *testing.T) {
	t.Parallel()
	r := rand.New(rand.NewSource(173))
	lengths := []int{1, 2, 3, 100, 1365, 2047, 2048, 2049, 3000, 4094, 4095, 4096}
	for _, n := range []int{4095, 4096} {
		for _, m := range lengths {
			against(t, drawn(r, n), drawn(r, m))
		}
	}
	top := full(api.MaxLimbs)
	for _, b := range []api.Int{plus(1), plus(2), plus(3), plus(10), plus(ones), plus(0, 1), plus(1, 1), full(2), full(3), full(2048), full(4095), power(131072), more(power(131072), 1), power(maxBits - 1), more(power(maxBits-1), 1), more(top, -1), top} {
		for _, a := range []api.Int{top, more(top, -1), power(maxBits - 1), more(power(maxBits-1), -1)} {
			against(t, a, b)
			against(t, about(a), b)
		}
	}
}

// P17.1, P17.4: 2^262144 - 1 and the numbers next to it, over what leaves the longest quotients and rests: none is too long.
func TestNothingTooLong(t *testing.T) {
	top := full(api.MaxLimbs)
	half := power(maxBits - 1)
	holdFloor(t, about(top), plus(1), about(top), api.Int{}, api.OK)
	holdFloor(t, top, less(1), about(top), api.Int{}, api.OK)
	holdFloor(t, about(top), plus(2), about(half), plus(1), api.OK)
	holdFloor(t, top, less(2), about(half), less(1), api.OK)
	holdTrunc(t, about(top), plus(2), about(more(half, -1)), less(1), api.OK)
	holdFloor(t, less(1), top, less(1), more(top, -1), api.OK)
	holdFloor(t, plus(1), about(top), less(1), about(more(top, -1)), api.OK)
	holdMod(t, less(1), top, more(top, -1), api.OK)
	holdFloor(t, about(more(top, -1)), top, less(1), plus(1), api.OK)
	holdTrunc(t, about(more(top, -1)), top, api.Int{}, about(more(top, -1)), api.OK)
}

// P17.1 to P17.3: quotients that are just whole, and just not: q b, and the numbers next to it.
func TestJustWhole(t *testing.T) {
	t.Parallel()
	r := rand.New(rand.NewSource(174))
	hold := func(q, b api.Int) {
		for n := int64(-2); n <= 2; n++ {
			if a := made(q, b, small(n)); fits(a) {
				against(t, rightOf(a), b)
			}
		}
	}
	for range 2500 {
		hold(drawn(r, r.Intn(6)), drawn(r, 1+r.Intn(6)))
	}
	for _, n := range [][2]int{{1, 4095}, {4095, 1}, {2048, 2048}, {1000, 3096}, {3900, 196}} {
		hold(drawn(r, n[0]), drawn(r, n[1]))
	}
}

// P17.1 to P17.3: numbers that are put together of a quotient and every kind of rest, without the library's quotients.
func TestPutTogether(t *testing.T) {
	t.Parallel()
	r := rand.New(rand.NewSource(175))
	for range 3000 {
		q, b := sizeOf(drawn(r, r.Intn(6))), sizeOf(drawn(r, 1+r.Intn(6)))
		for _, rest := range []api.Int{{}, plus(1), rightOf(new(big.Int).Rsh(valueOf(b), 1)), more(b, -1), sizeOf(drawn(r, len(b.Mag)-1))} {
			if valueOf(rest).Cmp(valueOf(b)) >= 0 {
				continue
			}
			a := rightOf(made(q, b, rest))
			holdAll(t, a, b, q, rest)
			holdAll(t, about(a), b, about(q), about(rest))
			holdAll(t, a, about(b), about(q), rest)
			holdAll(t, about(a), about(b), q, about(rest))
		}
	}
}

// tooGreat is by how much the quotient of the heads is above part over b, which is one limb: of b its highest 64 bits, of part what stands above the same place, but no more than the greatest limb.
func tooGreat(part, b *big.Int, limbs int) uint64 {
	up := uint(64*limbs - b.BitLen())
	down := uint(64 * (limbs - 1))
	head := new(big.Int).Rsh(new(big.Int).Lsh(b, up), down)
	guess := new(big.Int).Rsh(new(big.Int).Lsh(part, up), down)
	guess.Quo(guess, head)
	if !guess.IsUint64() {
		guess.SetUint64(ones)
	}
	return guess.Uint64() - new(big.Int).Quo(part, b).Uint64()
}

// hardDivisors are those whose lower limbs count: with a top limb of 1, of its highest bit alone, of all bits, and others, above many ones.
func hardDivisors(r *rand.Rand) []api.Int {
	l := []api.Int{}
	for _, top := range []uint64{1, 2, 3, 1<<32 - 1, 1 << 32, 1<<63 - 1, 1 << 63, 1<<63 + 1, ones - 1, ones} {
		for _, under := range []uint64{0, 1, 1<<63 - 1, 1 << 63, ones - 1, ones, r.Uint64()} {
			l = append(l, plus(under, top), plus(0, under, top), plus(ones, under, top), plus(ones, ones, under, top), plus(under, 0, top))
		}
	}
	return l
}

// P17.1 to P17.3: limbs that the heads make too great by 0, 1 and 2, the greatest limb among them, alone and on top of other limbs; all of these are met.
func TestSetRight(t *testing.T) {
	t.Parallel()
	r := rand.New(rand.NewSource(176))
	met := [3]int{}
	for _, b := range hardDivisors(r) {
		n := valueOf(b)
		for _, q := range []uint64{0, 1, 2, 1<<32 - 1, 1 << 62, 1<<63 - 1, 1 << 63, 1<<63 + 1, ones - 3, ones - 2, ones - 1, ones} {
			for _, rest := range []api.Int{{}, plus(1), more(b, -2), more(b, -1)} {
				limb := rightOf(new(big.Int).SetUint64(q))
				a := made(limb, b, rest)
				met[tooGreat(a, n, len(b.Mag))]++
				againstSigns(t, rightOf(a), b)
				against(t, rightOf(a.Lsh(a, 64)), b)
				against(t, rightOf(a.Add(a.Lsh(a, 128), valueOf(full(2)))), b)
			}
		}
	}
	if slices.Min(met[:]) < 100 {
		t.Errorf("limbs too great by 0, 1, 2: %v", met)
	}
}

// P17.1: quotients all of whose limbs the heads make too great, by many limbs.
func TestSetRightLong(t *testing.T) {
	t.Parallel()
	for _, top := range []uint64{1, 1 << 63, 1<<63 + 1, ones} {
		for _, n := range []int{2, 3, 100, 2000} {
			b := full(n)
			b.Mag[n-1] = top
			for _, q := range []api.Int{full(5), full(100), full(2000), power(6000), more(power(6000), -1)} {
				for _, rest := range []api.Int{{}, more(b, -1)} {
					a := rightOf(made(q, b, rest))
					holdAll(t, a, b, q, rest)
					holdAll(t, about(a), b, about(q), about(rest))
				}
			}
		}
	}
}

// R8, P17.1 to P17.3: ErrArg for what is not right, ahead of all else: of a 0 beside it, of a divisor below 0.
func TestRefused(t *testing.T) {
	others := []api.Int{{}, plus(1), less(1), plus(3), less(2), full(3), full(api.MaxLimbs), about(full(api.MaxLimbs))}
	for _, x := range wrongs() {
		for _, y := range append(wrongs(), others...) {
			holdRefused(t, x, y, api.ErrArg)
			holdRefused(t, y, x, api.ErrArg)
		}
	}
}

// P17.1 to P17.3: ErrZero for a divisor of 0, whatever is divided, 0 too.
func TestByNought(t *testing.T) {
	for _, nought := range noughts() {
		for _, a := range append(edges(), less(1), less(ones, ones), full(api.MaxLimbs), about(full(api.MaxLimbs)), api.Int{Mag: []uint64{}}) {
			holdRefused(t, a, nought, api.ErrZero)
		}
	}
}

// P17.3: ErrArg for a modulus below 0, also where nothing would be left.
func TestModBelow(t *testing.T) {
	for _, m := range append(edges()[1:], full(api.MaxLimbs), power(maxBits-1)) {
		for _, a := range []api.Int{{}, plus(1), less(1), m, about(m), full(api.MaxLimbs)} {
			holdMod(t, a, about(m), api.Int{}, api.ErrArg)
		}
	}
}

// spoil overwrites all that a list has, its spare room too.
func spoil(l []uint64) {
	l = l[:cap(l)]
	for i := range l {
		l[i] = 7
	}
}

// calls are all four, each with what it answers.
func calls(a, b api.Int) map[string]func() []api.Int {
	return map[string]func() []api.Int{
		"Floor": func() []api.Int { q, r, _ := divide.Floor(a, b); return []api.Int{q, r} },
		"Trunc": func() []api.Int { q, r, _ := divide.Trunc(a, b); return []api.Int{q, r} },
		"Exact": func() []api.Int { q, _, _ := divide.Exact(a, b); return []api.Int{q} },
		"Mod":   func() []api.Int { r, _ := divide.Mod(a, b); return []api.Int{r} },
	}
}

// copied is each number in memory of its own.
func copied(l []api.Int) []api.Int {
	c := []api.Int{}
	for _, x := range l {
		c = append(c, of(x.Neg, slices.Clone(x.Mag)...))
	}
	return c
}

// pairsForMemory are of all kinds: a shorter than b, as long, longer; over 1 and -1; without a rest; of all signs.
func pairsForMemory() [][2]api.Int {
	r := rand.New(rand.NewSource(177))
	l := [][2]api.Int{{drawn(r, 3), plus(1)}, {drawn(r, 3), less(1)}, {plus(5), plus(7)}, {less(5), plus(7)}, {api.Int{}, plus(7)}, {drawn(r, 3000), drawn(r, 1000)}}
	for range 200 {
		a, b := drawn(r, r.Intn(7)), drawn(r, 1+r.Intn(5))
		l = append(l, [2]api.Int{a, b}, [2]api.Int{b, b}, [2]api.Int{rightOf(made(a, b, api.Int{})), b})
	}
	return l
}

// R3: numbers are only read, their spare room too; answers are the caller's own, the quotient and the rest apart.
func TestMemory(t *testing.T) {
	for _, p := range pairsForMemory() {
		a, b := p[0], p[1]
		aRoom, bRoom := append(slices.Clone(a.Mag), 11, 12, 13), append(slices.Clone(b.Mag), 21, 22, 23)
		a.Mag, b.Mag = aRoom[:len(a.Mag)], bRoom[:len(b.Mag)]
		aKeep, bKeep := slices.Clone(aRoom), slices.Clone(bRoom)
		for name, call := range calls(a, b) {
			first, second := call(), call()
			keep := copied(first)
			for _, x := range second {
				spoil(x.Mag)
			}
			if !slices.EqualFunc(first, keep, same) {
				t.Errorf("%s of %s, %s: two answers share memory", name, short(a), short(b))
			}
			for i, x := range first {
				spoil(x.Mag)
				if !slices.EqualFunc(first[i+1:], keep[i+1:], same) {
					t.Errorf("%s of %s, %s: quotient and rest share memory", name, short(a), short(b))
				}
			}
			if !slices.Equal(aRoom, aKeep) || !slices.Equal(bRoom, bKeep) {
				t.Fatalf("%s of %s, %s: what was handed in has changed", name, short(a), short(b))
			}
			if again := call(); !slices.EqualFunc(again, keep, same) {
				t.Errorf("%s of %s, %s: the answer has changed", name, short(a), short(b))
			}
		}
	}
}

// R3: the spare room of a rest is not that of the quotient, nor the other way round.
func TestSpareRoomApart(t *testing.T) {
	for _, p := range pairsForMemory() {
		for name, call := range calls(p[0], p[1]) {
			l := call()
			if len(l) < 2 {
				continue
			}
			for i := range 2 {
				one, other := l[i].Mag[:cap(l[i].Mag)], l[1-i].Mag[:cap(l[1-i].Mag)]
				keep := slices.Clone(other)
				spoil(one)
				if !slices.Equal(other, keep) {
					t.Errorf("%s of %s, %s: spare room is shared", name, short(p[0]), short(p[1]))
				}
			}
		}
	}
}

// R3: both numbers may lie in one list, over each other.
func TestOneListTwice(t *testing.T) {
	l := drawn(rand.New(rand.NewSource(178)), 130).Mag
	l[49], l[99] = 1, 9
	keep := slices.Clone(l)
	for _, p := range [][2]api.Int{{plus(l...), plus(l...)}, {plus(l...), less(l[2:]...)}, {plus(l[3:100]...), plus(l[:50]...)}, {less(l[:100]...), plus(l[:50]...)}, {less(l[:50]...), plus(l[:100]...)}} {
		against(t, p[0], p[1])
	}
	if !slices.Equal(l, keep) {
		t.Error("the list has changed")
	}
}

// R4: calls side by side, of the same numbers, tell what they tell one by one.
func TestSideBySide(t *testing.T) {
	r := rand.New(rand.NewSource(179))
	a, b := drawn(r, 700), drawn(r, 300)
	var group sync.WaitGroup
	for range 8 {
		group.Go(func() { against(t, a, b) })
		group.Go(func() { against(t, b, a) })
	}
	group.Wait()
}
