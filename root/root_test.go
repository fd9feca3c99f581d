package root_test

import (
	"encoding/binary"
	"fmt"
	"math"
	"math/big"
	"math/rand"
	"slices"
	"sync"
	"testing"

	"rosette/api"
	"rosette/limb"
	"rosette/root"
)

const (
	ones    = 1<<64 - 1
	maxBits = 64 * api.MaxLimbs
)

func of(neg bool, l ...uint64) api.Int { return api.Int{Neg: neg, Mag: l} }

func plus(l ...uint64) api.Int { return of(false, l...) }

func less(l ...uint64) api.Int { return of(true, l...) }

// about is 0 less x.
func about(x api.Int) api.Int { return of(!x.Neg && len(x.Mag) > 0, x.Mag...) }

// sizeOf is x without its sign.
func sizeOf(x api.Int) api.Int { return plus(x.Mag...) }

func same(a, b api.Int) bool { return a.Neg == b.Neg && slices.Equal(a.Mag, b.Mag) }

// full has so many limbs, all ones: 2^(64 limbs) - 1.
func full(limbs int) api.Int { return plus(slices.Repeat([]uint64{ones}, limbs)...) }

// two is 2^n.
func two(n int) api.Int {
	m := make([]uint64, n/64+1)
	m[n/64] = 1 << (n % 64)
	return plus(m...)
}

// small is n as a whole number.
func small(n int64) api.Int { return rightOf(big.NewInt(n)) }

// valueOf is what x is, as a whole number of the library.
func valueOf(x api.Int) *big.Int {
	b := make([]byte, 0, 8*len(x.Mag))
	for _, l := range slices.Backward(x.Mag) {
		b = binary.BigEndian.AppendUint64(b, l)
	}
	n := new(big.Int).SetBytes(b)
	if x.Neg {
		n.Neg(n)
	}
	return n
}

// fits tells whether n is not too long.
func fits(n *big.Int) bool { return n.BitLen() <= maxBits }

// rightOf is the right whole number of n, which must not be too long.
func rightOf(n *big.Int) api.Int {
	if !fits(n) {
		panic("too long")
	}
	x := api.Int{Neg: n.Sign() < 0}
	b := new(big.Int).Abs(n).FillBytes(make([]byte, (n.BitLen()+63)/64*8))
	for i := len(b); i > 0; i -= 8 {
		x.Mag = append(x.Mag, binary.BigEndian.Uint64(b[i-8:]))
	}
	return x
}

// more is x and n.
func more(x api.Int, n int64) api.Int {
	return rightOf(new(big.Int).Add(valueOf(x), big.NewInt(n)))
}

// raised is b to the power n, by the library.
func raised(b api.Int, n int) *big.Int {
	return new(big.Int).Exp(valueOf(b), big.NewInt(int64(n)), nil)
}

// drawn is a right whole number of so many limbs, of either sign, with runs of noughts and of ones.
func drawn(r *rand.Rand, limbs int) api.Int {
	m := make([]uint64, limbs)
	for i := 0; i < limbs; {
		kind, run := r.Intn(7), 1
		if kind < 3 && r.Intn(3) == 0 {
			run = 1 + r.Intn(limbs)
		}
		for ; run > 0 && i < limbs; run-- {
			m[i] = []uint64{0, ones, ones, 1, 1 << 63, r.Uint64(), r.Uint64() >> r.Intn(64)}[kind]
			i++
		}
	}
	if limbs > 0 {
		m[limbs-1] |= 1 << r.Intn(64)
	}
	return of(limbs > 0 && r.Intn(2) == 0, m...)
}

// drawnBase is a drawn number of so many limbs that is 2 or more.
func drawnBase(r *rand.Rand, limbs int) api.Int {
	b := sizeOf(drawn(r, limbs))
	b.Mag[limbs-1] |= 2
	return b
}

// noughts are all forms of 0.
func noughts() []api.Int {
	return []api.Int{{}, {Mag: []uint64{}}, {Mag: make([]uint64, 0, 5)}}
}

// wrongs are whole numbers that are not right, each by one fault alone.
func wrongs() []api.Int {
	long := full(api.MaxLimbs + 1)
	return []api.Int{
		{Neg: true}, {Neg: true, Mag: []uint64{}}, {Neg: true, Mag: make([]uint64, 0, 3)}, // no limbs and Neg
		plus(0), less(0), plus(1, 0), less(1, 0), plus(0, 0), plus(ones, ones, 0), plus(append(full(api.MaxLimbs-1).Mag, 0)...), // a 0 on top
		long, about(long), two(maxBits), about(two(maxBits)), full(5000), // limbs
	}
}

// short tells a number of few limbs whole, and the ends of others.
func short(x api.Int) string {
	if n := len(x.Mag); n > 8 {
		return fmt.Sprintf("{%v %d limbs: %v .. %v}", x.Neg, n, x.Mag[:3], x.Mag[n-3:])
	}
	return fmt.Sprint(x)
}

func holdSquare(t *testing.T, a, r, rest api.Int, err api.Errno) {
	t.Helper()
	if x, y, e := root.Square(a); e != err || !same(x, r) || !same(y, rest) {
		t.Errorf("Square(%s): %s, %s, %v; wanted are %s, %s, %v", short(a), short(x), short(y), e, short(r), short(rest), err)
	}
}

func holdOf(t *testing.T, a api.Int, n int, r api.Int, err api.Errno) {
	t.Helper()
	if x, e := root.Of(a, n); e != err || !same(x, r) {
		t.Errorf("Of(%s, %d): %s, %v; wanted are %s, %v", short(a), n, short(x), e, short(r), err)
	}
}

func holdPerfect(t *testing.T, a, b api.Int, n int, err api.Errno) {
	t.Helper()
	if x, m, e := root.Perfect(a); e != err || m != n || !same(x, b) {
		t.Errorf("Perfect(%s): %s, %d, %v; wanted are %s, %d, %v", short(a), short(x), m, e, short(b), n, err)
	}
}

// order is -1, 0 or 1: r to the power n is below a, a itself, above it; a is not too long.
func order(r *big.Int, n int, a *big.Int) int {
	if r.CmpAbs(big.NewInt(1)) <= 0 {
		n = 2 - n%2 // the powers of 0, 1 and -1 come round.
	}
	if n > maxBits+1 {
		n = maxBits + 2 - n%2 // further from 0 than any a, on the same side.
	}
	return new(big.Int).Exp(r, big.NewInt(int64(n)), nil).Cmp(a)
}

// against holds Of, and Square where n is 2, against the library: the root's power is not above a, that of one more is.
func against(t *testing.T, a api.Int, n int) {
	t.Helper()
	r, e := root.Of(a, n)
	if e != api.OK || !limb.Right(r) {
		t.Fatalf("Of(%s, %d): %s, %v", short(a), n, short(r), e)
	}
	whole, value := valueOf(r), valueOf(a)
	next := new(big.Int).Add(whole, big.NewInt(1))
	if r.Neg != a.Neg || order(whole, n, value) > 0 || order(next, n, value) <= 0 {
		t.Errorf("Of(%s, %d): %s", short(a), n, short(r))
	}
	if n == 2 {
		rest := new(big.Int).Mul(whole, whole)
		holdSquare(t, a, r, rightOf(rest.Sub(value, rest)), api.OK)
	}
}

// againstSigns holds Of against the library for a size, and, where n is odd, for what is as far below 0.
func againstSigns(t *testing.T, a api.Int, n int) {
	t.Helper()
	against(t, sizeOf(a), n)
	if n%2 == 1 {
		against(t, about(sizeOf(a)), n)
	}
}

// P18.1 to P18.3: what the chapter and DOC.md write out.
func TestExamples(t *testing.T) {
	holdSquare(t, small(10), small(3), small(1), api.OK)
	holdSquare(t, small(50), small(7), small(1), api.OK)
	holdSquare(t, small(0), small(0), small(0), api.OK)
	holdSquare(t, two(128), two(64), small(0), api.OK)
	holdSquare(t, small(-1), api.Int{}, api.Int{}, api.ErrArg)
	for _, c := range [][3]int64{{8, 3, 2}, {-8, 3, -2}, {-9, 3, -3}, {7, 3, 1}, {5, 1, 5}, {-2, 1<<62 + 1, -2}, {-1, 1<<62 + 1, -1}, {0, 5, 0}} {
		holdOf(t, small(c[0]), int(c[1]), small(c[2]), api.OK)
	}
	holdOf(t, small(-1), 2, api.Int{}, api.ErrArg)
	holdOf(t, small(4), 0, api.Int{}, api.ErrArg)
	holdOf(t, two(100), 1<<62, small(1), api.OK)
	for _, c := range [][3]int64{{64, 2, 6}, {-64, -4, 3}, {36, 6, 2}, {12, 12, 1}, {-1, -1, 1}, {-16, -16, 1}} {
		holdPerfect(t, small(c[0]), small(c[1]), int(c[2]), api.OK)
	}
	holdPerfect(t, two(64), small(2), 64, api.OK)
}

// smallRoot is the root by looking at one number after the other; of even n it is asked from 0 on alone.
func smallRoot(a int64, n int) int64 {
	r := int64(0)
	if a < 0 {
		r = a
	}
	for order(big.NewInt(r+1), n, big.NewInt(a)) <= 0 {
		r++
	}
	return r
}

// P18.1, P18.2: all small numbers, by looking at each that could be the root.
func TestSmalls(t *testing.T) {
	for a := int64(-70); a <= 300; a++ {
		for n := 1; n <= 11; n++ {
			if a < 0 && n%2 == 0 {
				holdOf(t, small(a), n, api.Int{}, api.ErrArg)
				continue
			}
			r := smallRoot(a, n)
			holdOf(t, small(a), n, small(r), api.OK)
			if n == 2 {
				holdSquare(t, small(a), small(r), small(a-r*r), api.OK)
			}
		}
	}
	for a := range int64(5000) {
		r := int64(math.Sqrt(float64(a)))
		holdSquare(t, small(a), small(r), small(a-r*r), api.OK)
	}
}

// edges are powers of two, the numbers next to them, and numbers of few limbs, from 0 on.
func edges() []api.Int {
	l := []api.Int{{}, plus(1), plus(3), plus(5), plus(6), plus(7), plus(10), plus(1000)}
	for _, n := range []int{2, 31, 32, 33, 62, 63, 64, 65, 127, 128, 129, 191, 192, 193, 256, 400, 1023, 1024} {
		l = append(l, more(two(n), -1), two(n), more(two(n), 1))
	}
	return append(l, plus(ones-1), plus(ones, 1), plus(0, ones), plus(1, ones), plus(ones, 1<<63), plus(0, 1, 1), plus(ones, 0, 1), plus(0, 0, ones), plus(0xaaaaaaaaaaaaaaaa, 0x5555555555555555), plus(1, 2, 3, 4, 5, 6, 7), full(7))
}

// P18.1, P18.2: all edges, numbers of one limb among them, at many n, of both signs.
func TestEdges(t *testing.T) {
	t.Parallel()
	for _, a := range edges() {
		for n := 1; n <= 70; n++ {
			againstSigns(t, a, n)
		}
		for _, n := range []int{127, 128, 129, 255, 256, 257, 399, 400, 401, 1022, 1023, 1024, 1025, 1026} {
			againstSigns(t, a, n)
		}
	}
}

// P18.1, P18.2: numbers of all lengths, at all n up to one at which the root is 1.
func TestLengths(t *testing.T) {
	t.Parallel()
	r := rand.New(rand.NewSource(181))
	for limbs := range 26 {
		for n := 1; n <= 70; n++ {
			againstSigns(t, drawn(r, limbs), n)
		}
		for range 40 {
			againstSigns(t, drawn(r, limbs), 1+r.Intn(64*limbs+70))
		}
	}
	for range 20000 {
		againstSigns(t, drawn(r, r.Intn(5)), 1+r.Intn(9))
	}
}

// P18.2: one number at every n there is below its bits, and past them.
func TestEveryN(t *testing.T) {
	t.Parallel()
	for _, a := range []api.Int{drawn(rand.New(rand.NewSource(182)), 20), full(17), two(1151)} {
		for n := 1; n <= 64*len(a.Mag)+3; n++ {
			againstSigns(t, a, n)
		}
	}
}

// holdNextToPower holds Of at b^n, b being 2 or more, n too, and at one more and one less, of both signs.
func holdNextToPower(t *testing.T, b api.Int, n int) {
	t.Helper()
	p := raised(b, n)
	for _, c := range []struct{ by, up, down int64 }{{-1, -1, 0}, {0, 0, 0}, {1, 0, 1}} {
		a := new(big.Int).Add(p, big.NewInt(c.by))
		if !fits(a) {
			continue
		}
		holdOf(t, rightOf(a), n, more(b, c.up), api.OK)
		if n == 2 {
			rest := new(big.Int).Mul(valueOf(more(b, c.up)), valueOf(more(b, c.up)))
			holdSquare(t, rightOf(a), more(b, c.up), rightOf(rest.Sub(a, rest)), api.OK)
		}
		if n%2 == 1 {
			holdOf(t, about(rightOf(a)), n, about(more(b, c.down)), api.OK)
		}
	}
}

// P18.1, P18.2, P18.4: powers, and the numbers next to them.
func TestNextToPowers(t *testing.T) {
	t.Parallel()
	r := rand.New(rand.NewSource(183))
	for b := int64(2); b <= 40; b++ {
		for n := 2; n <= 40; n++ {
			holdNextToPower(t, small(b), n)
		}
		for _, n := range []int{63, 64, 65, 100, 333, 512, 1000, 1001} {
			holdNextToPower(t, small(b), n)
		}
	}
	for _, b := range edges()[2:] {
		for n := 2; n <= 12; n++ {
			holdNextToPower(t, b, n)
		}
	}
	for range 3000 {
		holdNextToPower(t, drawnBase(r, 1+r.Intn(6)), 2+r.Intn(12))
	}
}

// P18.1, P18.2: powers of 4096 limbs, or nearly so, and the numbers next to them.
func TestNextToLongPowers(t *testing.T) {
	t.Parallel()
	r := rand.New(rand.NewSource(184))
	for _, c := range [][2]int{{2048, 2}, {1365, 3}, {1024, 4}, {819, 5}, {585, 7}, {64, 64}, {41, 99}, {4, 1023}, {1, 4095}, {1, 4096}} {
		holdNextToPower(t, full(c[0]), c[1])
		holdNextToPower(t, drawnBase(r, c[0]), c[1])
		holdNextToPower(t, more(two(64*c[0]-1), 1), c[1])
	}
	for _, n := range []int{5000, 10000, 13000, 15001, 20000, 40001, 60000, 100001, 131071} {
		b := small(1<<(maxBits/n) - 1)
		holdNextToPower(t, b, n)
		holdNextToPower(t, small(3), n)
		holdNextToPower(t, small(2), n)
	}
}

// P18.1, P18.2: numbers of 4096 limbs, the least and greatest ones among them.
func TestLongs(t *testing.T) {
	t.Parallel()
	r := rand.New(rand.NewSource(185))
	top := full(api.MaxLimbs)
	for _, a := range []api.Int{top, more(top, -1), two(maxBits - 1), more(two(maxBits-1), -1), two(maxBits - 64), drawn(r, api.MaxLimbs), drawn(r, api.MaxLimbs)} {
		for _, n := range []int{1, 2, 3, 4, 6, 31, 100, 1001, 9999, 30000, 131072, 262142, 262143, 262144, 262145, math.MaxInt} {
			againstSigns(t, a, n)
		}
	}
	holdSquare(t, top, full(api.MaxLimbs/2), rightOf(new(big.Int).Lsh(valueOf(full(api.MaxLimbs/2)), 1)), api.OK)
	holdOf(t, two(maxBits-1), 262143, plus(2), api.OK)
	holdOf(t, more(two(maxBits-1), -1), 262143, plus(1), api.OK)
}

// P18.2: every n from 1 on, up to the greatest int: where 2^n is above a, the root is 1, or just below 0, -1 and -2.
func TestGreatN(t *testing.T) {
	odd := []int{401, 1025, 262145, 1<<31 - 1, 1<<32 + 1, 1<<62 + 1, math.MaxInt - 2, math.MaxInt}
	even := []int{402, 1026, 262144, 1 << 31, 1 << 32, 1 << 62, math.MaxInt - 1}
	for _, a := range []api.Int{plus(2), plus(3), plus(1 << 63), full(6), two(400), more(two(400), 1)} {
		for _, n := range append(odd, even...) {
			holdOf(t, a, n, plus(1), api.OK)
			holdOf(t, plus(1), n, plus(1), api.OK)
		}
		for _, n := range odd {
			holdOf(t, about(a), n, less(2), api.OK)
			holdOf(t, less(1), n, less(1), api.OK)
		}
	}
	holdOf(t, full(api.MaxLimbs), math.MaxInt, plus(1), api.OK)
	holdOf(t, about(full(api.MaxLimbs)), math.MaxInt, less(2), api.OK)
}

// P18.1, P18.2: 0 has the root 0 for all n, 1 the root 1, in every form of 0.
func TestNoughtAndOne(t *testing.T) {
	for _, n := range []int{1, 2, 3, 4, 63, 64, 65, 262144, math.MaxInt - 1, math.MaxInt} {
		for _, nought := range noughts() {
			holdOf(t, nought, n, api.Int{}, api.OK)
		}
		holdOf(t, plus(1), n, plus(1), api.OK)
		if n%2 == 1 {
			holdOf(t, less(1), n, less(1), api.OK)
		}
	}
	for _, nought := range noughts() {
		holdSquare(t, nought, api.Int{}, api.Int{}, api.OK)
		holdPerfect(t, nought, api.Int{}, 1, api.OK)
	}
	holdSquare(t, plus(1), plus(1), api.Int{}, api.OK)
}

// P18.2: the root for 1 is the number.
func TestRootForOne(t *testing.T) {
	for _, a := range append(edges(), full(api.MaxLimbs), two(maxBits-1)) {
		holdOf(t, a, 1, a, api.OK)
		holdOf(t, about(a), 1, about(a), api.OK)
	}
}

// R8, P18.1 to P18.3: ErrArg for what is not right, below 0 where it may not be, and for n below 1; all else is 0.
func TestRefused(t *testing.T) {
	below := []int{0, -1, -2, -3, math.MinInt, math.MinInt + 1}
	for _, x := range wrongs() {
		holdSquare(t, x, api.Int{}, api.Int{}, api.ErrArg)
		holdPerfect(t, x, api.Int{}, 0, api.ErrArg)
		for _, n := range append(below, 1, 2, 3, 64, math.MaxInt-1, math.MaxInt) {
			holdOf(t, x, n, api.Int{}, api.ErrArg)
		}
	}
	for _, a := range append(edges()[1:], full(api.MaxLimbs), two(maxBits-1)) {
		holdSquare(t, about(a), api.Int{}, api.Int{}, api.ErrArg)
		for _, n := range []int{2, 4, 6, 64, 262144, 1 << 62, math.MaxInt - 1} {
			holdOf(t, about(a), n, api.Int{}, api.ErrArg)
		}
		for _, n := range below {
			holdOf(t, a, n, api.Int{}, api.ErrArg)
			holdOf(t, about(a), n, api.Int{}, api.ErrArg)
		}
	}
	for _, n := range below {
		holdOf(t, api.Int{}, n, api.Int{}, api.ErrArg)
	}
}

// spoil overwrites all that a list has, its spare room too.
func spoil(l []uint64) {
	l = l[:cap(l)]
	for i := range l {
		l[i] = 7
	}
}

// calls are of all three, each with the numbers that it answers.
func calls(a api.Int) map[string]func() []api.Int {
	return map[string]func() []api.Int{
		"Square":  func() []api.Int { r, s, _ := root.Square(a); return []api.Int{r, s} },
		"Of 1":    func() []api.Int { r, _ := root.Of(a, 1); return []api.Int{r} },
		"Of 2":    func() []api.Int { r, _ := root.Of(a, 2); return []api.Int{r} },
		"Of 3":    func() []api.Int { r, _ := root.Of(a, 3); return []api.Int{r} },
		"Of 1001": func() []api.Int { r, _ := root.Of(a, 1001); return []api.Int{r} },
		"Perfect": func() []api.Int { b, _, _ := root.Perfect(a); return []api.Int{b} },
	}
}

// copied is each number in memory of its own.
func copied(l []api.Int) []api.Int {
	c := []api.Int{}
	for _, x := range l {
		c = append(c, of(x.Neg, slices.Clone(x.Mag)...))
	}
	return c
}

// numbersForMemory are of all kinds: 0 and 1, powers and others, odd and even, of both signs.
func numbersForMemory() []api.Int {
	r := rand.New(rand.NewSource(186))
	l := []api.Int{{}, plus(1), less(1), plus(12), less(12), plus(64), less(64), two(300), full(3), drawn(r, 300)}
	for range 150 {
		b := drawn(r, 1+r.Intn(5))
		l = append(l, b, rightOf(raised(b, 2)), rightOf(raised(b, 3)), rightOf(raised(b, 6)))
	}
	return l
}

// R3: numbers are only read, their spare room too; answers are the caller's own, root and rest apart.
func TestMemory(t *testing.T) {
	for _, a := range numbersForMemory() {
		room := append(slices.Clone(a.Mag), 11, 12, 13)
		a.Mag = room[:len(a.Mag)]
		kept := slices.Clone(room)
		for name, call := range calls(a) {
			first, second := call(), call()
			keep := copied(first)
			for _, x := range second {
				spoil(x.Mag)
			}
			if !slices.EqualFunc(first, keep, same) {
				t.Errorf("%s of %s: two answers share memory", name, short(a))
			}
			for i, x := range first {
				spoil(x.Mag)
				if !slices.EqualFunc(first[i+1:], keep[i+1:], same) {
					t.Errorf("%s of %s: root and rest share memory", name, short(a))
				}
			}
			if !slices.Equal(room, kept) {
				t.Fatalf("%s of %s: what was handed in has changed", name, short(a))
			}
			if again := call(); !slices.EqualFunc(again, keep, same) {
				t.Errorf("%s of %s: the answer has changed", name, short(a))
			}
		}
	}
}

// R3: the spare room of a rest is not that of the root, nor the other way round.
func TestSpareRoomApart(t *testing.T) {
	for _, a := range numbersForMemory() {
		for i := range 2 {
			l := calls(sizeOf(a))["Square"]()
			one, other := l[i].Mag[:cap(l[i].Mag)], l[1-i].Mag[:cap(l[1-i].Mag)]
			keep := slices.Clone(other)
			spoil(one)
			if !slices.Equal(other, keep) {
				t.Errorf("Square of %s: spare room is shared", short(a))
			}
		}
	}
}

// R4: calls side by side, of the same number, tell what they tell one by one.
func TestSideBySide(t *testing.T) {
	a := sizeOf(drawn(rand.New(rand.NewSource(187)), 200))
	p := rightOf(raised(plus(3, 1), 90))
	var group sync.WaitGroup
	for range 8 {
		group.Go(func() { against(t, a, 2) })
		group.Go(func() { against(t, a, 7) })
		group.Go(func() { holdPerfect(t, p, plus(3, 1), 90, api.OK) })
	}
	group.Wait()
}
