package base_test

import (
	"encoding/binary"
	"fmt"
	"math"
	"math/big"
	"math/rand"
	"slices"
	"strconv"
	"strings"
	"testing"

	"rosette/api"
	"rosette/base"
)

const (
	ones    = 1<<64 - 1
	maxBits = 64 * api.MaxLimbs
	letters = "0123456789abcdefghijklmnopqrstuvwxyz"
)

func of(neg bool, l ...uint64) api.Int { return api.Int{Neg: neg, Mag: l} }

func plus(l ...uint64) api.Int { return of(false, l...) }

func less(l ...uint64) api.Int { return of(true, l...) }

// about is 0 less x.
func about(x api.Int) api.Int { return of(!x.Neg && len(x.Mag) > 0, x.Mag...) }

func same(a, b api.Int) bool { return a.Neg == b.Neg && slices.Equal(a.Mag, b.Mag) }

// full has so many limbs, all ones: 2^(64 limbs) - 1.
func full(limbs int) api.Int { return plus(slices.Repeat([]uint64{ones}, limbs)...) }

// two is 2^n.
func two(n int) api.Int {
	m := make([]uint64, n/64+1)
	m[n/64] = 1 << (n % 64)
	return plus(m...)
}

// small is n as a whole number.
func small(n int64) api.Int { return rightOf(big.NewInt(n)) }

// valueOf is what x is, as a whole number of the library.
func valueOf(x api.Int) *big.Int {
	b := make([]byte, 0, 8*len(x.Mag))
	for _, l := range slices.Backward(x.Mag) {
		b = binary.BigEndian.AppendUint64(b, l)
	}
	n := new(big.Int).SetBytes(b)
	if x.Neg {
		n.Neg(n)
	}
	return n
}

// fits tells whether n is not too long.
func fits(n *big.Int) bool { return n.BitLen() <= maxBits }

// rightOf is the right whole number of n, which must not be too long.
func rightOf(n *big.Int) api.Int {
	if !fits(n) {
		panic("too long")
	}
	x := api.Int{Neg: n.Sign() < 0}
	b := new(big.Int).Abs(n).FillBytes(make([]byte, (n.BitLen()+63)/64*8))
	for i := len(b); i > 0; i -= 8 {
		x.Mag = append(x.Mag, binary.BigEndian.Uint64(b[i-8:]))
	}
	return x
}

// more is x and n.
func more(x api.Int, n int64) api.Int {
	return rightOf(new(big.Int).Add(valueOf(x), big.NewInt(n)))
}

// raised is b to the power n, by the library.
func raised(b, n int) *big.Int {
	return new(big.Int).Exp(big.NewInt(int64(b)), big.NewInt(int64(n)), nil)
}

// drawn is a right whole number of so many limbs, of either sign, with runs of noughts and of ones.
func drawn(r *rand.Rand, limbs int) api.Int {
	m := make([]uint64, limbs)
	for i := 0; i < limbs; {
		kind, run := r.Intn(7), 1
		if kind < 3 && r.Intn(3) == 0 {
			run = 1 + r.Intn(limbs)
		}
		for ; run > 0 && i < limbs; run-- {
			m[i] = []uint64{0, ones, ones, 1, 1 << 63, r.Uint64(), r.Uint64() >> r.Intn(64)}[kind]
			i++
		}
	}
	if limbs > 0 {
		m[limbs-1] |= 1 << r.Intn(64)
	}
	return of(limbs > 0 && r.Intn(2) == 0, m...)
}

// noughts are all forms of 0.
func noughts() []api.Int {
	return []api.Int{{}, {Mag: []uint64{}}, {Mag: make([]uint64, 0, 5)}}
}

// wrongs are whole numbers that are not right, each by one fault alone.
func wrongs() []api.Int {
	long := full(api.MaxLimbs + 1)
	return []api.Int{
		{Neg: true}, {Neg: true, Mag: []uint64{}}, {Neg: true, Mag: make([]uint64, 0, 3)}, // no limbs and Neg
		plus(0), less(0), plus(1, 0), less(1, 0), plus(0, 0), plus(ones, ones, 0), plus(append(full(api.MaxLimbs-1).Mag, 0)...), // a 0 on top
		long, about(long), two(maxBits), about(two(maxBits)), full(5000), // limbs
	}
}

// bases are all that there are.
func bases() []int {
	l := []int{}
	for b := 2; b <= 36; b++ {
		l = append(l, b)
	}
	return l
}

// someBases are the least and the greatest, those in daily use, and those whose digits fill a limb best and worst.
func someBases() []int { return []int{2, 3, 7, 10, 16, 32, 35, 36} }

// noBases are those that there are not.
func noBases() []int {
	return []int{1, 37, 0, -1, -2, -5, -10, -16, -36, 38, 64, 100, 256, 1 << 32, 1<<32 + 10, 1<<62 + 2, math.MinInt, math.MinInt + 10, math.MaxInt}
}

// short tells a number of few limbs whole, and the ends of others.
func short(x api.Int) string {
	if n := len(x.Mag); n > 8 {
		return fmt.Sprintf("{%v %d limbs: %v .. %v}", x.Neg, n, x.Mag[:3], x.Mag[n-3:])
	}
	return fmt.Sprint(x)
}

// brief tells a short text whole, and the ends of others.
func brief(s string) string {
	if n := len(s); n > 100 {
		return fmt.Sprintf("%q .. %q (%d bytes)", s[:40], s[n-40:], n)
	}
	return strconv.Quote(s)
}

func holdPrint(t *testing.T, x api.Int, b int, want string, err api.Errno) {
	t.Helper()
	if s, e := base.Print(x, b); s != want || e != err {
		t.Errorf("Print(%s, %d): %s, %v; wanted are %s, %v", short(x), b, brief(s), e, brief(want), err)
	}
}

func holdParse(t *testing.T, s string, b int, want api.Int, fault api.Fault) {
	t.Helper()
	if x, f := base.Parse(s, b); !same(x, want) || f != fault {
		t.Errorf("Parse(%s, %d): %s, %v; wanted are %s, %v", brief(s), b, short(x), f, short(want), fault)
	}
}

func holdCount(t *testing.T, x api.Int, b, want int, err api.Errno) {
	t.Helper()
	if n, e := base.Count(x, b); n != want || e != err {
		t.Errorf("Count(%s, %d): %d, %v; wanted are %d, %v", short(x), b, n, e, want, err)
	}
}

// holdText holds all three calls: s is the text that says x.
func holdText(t *testing.T, x api.Int, b int, s string) {
	t.Helper()
	holdPrint(t, x, b, s, api.OK)
	holdParse(t, s, b, x, api.Fault{})
	holdCount(t, x, b, len(strings.TrimPrefix(s, "-")), api.OK)
}

// against holds all three calls against the library, at both signs.
func against(t *testing.T, x api.Int, b int) {
	t.Helper()
	for _, y := range []api.Int{x, about(x)} {
		holdText(t, y, b, valueOf(y).Text(b))
	}
}

// P19.1 to P19.3: what the chapter and DOC.md write out.
func TestExamples(t *testing.T) {
	holdText(t, small(-255), 16, "-ff")
	holdText(t, small(255), 16, "ff")
	holdText(t, small(0), 2, "0")
	holdText(t, small(35), 36, "z")
	holdText(t, two(64), 10, "18446744073709551616")
	holdText(t, small(-2), 2, "-10")
	holdCount(t, small(-255), 16, 2, api.OK)
	holdCount(t, small(0), 7, 1, api.OK)
	for _, c := range []struct {
		s    string
		b, n int
	}{{"", 10, 0}, {"-", 10, 1}, {"00", 10, 1}, {"-0", 10, 1}, {"01", 10, 1}, {"+1", 10, 0}, {"12", 2, 1}, {"FF", 16, 0}, {"1-", 10, 1}, {"1 ", 10, 1}, {"012", 10, 1}} {
		holdParse(t, c.s, c.b, api.Int{}, api.Fault{Err: api.ErrText, At: c.n})
	}
	holdPrint(t, small(1), 1, "", api.ErrArg)
	holdPrint(t, small(1), 37, "", api.ErrArg)
	holdParse(t, "1", 0, api.Int{}, api.Fault{Err: api.ErrArg})
	holdCount(t, small(1), -5, 0, api.ErrArg)
	holdParse(t, strings.Repeat("1", 1<<20+1), 10, api.Int{}, api.Fault{Err: api.ErrLong})
	holdParse(t, "1"+strings.Repeat("0", 65536), 16, api.Int{}, api.Fault{Err: api.ErrLong})
	holdParse(t, strings.Repeat("1", 262144), 2, full(api.MaxLimbs), api.Fault{})
}

// P19.1 to P19.3: all small numbers, and the ends of int64, in all bases.
func TestSmalls(t *testing.T) {
	t.Parallel()
	for _, b := range bases() {
		for n := int64(-1500); n <= 1500; n++ {
			holdText(t, small(n), b, strconv.FormatInt(n, b))
		}
		for _, n := range []int64{math.MinInt64, math.MinInt64 + 1, math.MinInt32, 1<<31 - 1, 1 << 32, 1 << 53, math.MaxInt64 - 1, math.MaxInt64} {
			holdText(t, small(n), b, strconv.FormatInt(n, b))
		}
		for _, n := range []uint64{1 << 63, 1<<63 + 1, ones - 1, ones} {
			holdText(t, plus(n), b, strconv.FormatUint(n, b))
			holdText(t, less(n), b, "-"+strconv.FormatUint(n, b))
		}
	}
}

// P19.1 to P19.3: each digit by itself, and what the alphabet says of it.
func TestDigits(t *testing.T) {
	for _, b := range bases() {
		for n := range b {
			holdText(t, small(int64(n)), b, letters[n:n+1])
			holdText(t, small(int64(b+n)), b, "1"+letters[n:n+1])
			if n > 0 {
				holdText(t, small(int64(-n)), b, "-"+letters[n:n+1])
				holdText(t, small(int64(-n*b)), b, "-"+letters[n:n+1]+"0")
			}
		}
	}
}

// P19.1, P19.3: 0 in every form of it.
func TestNought(t *testing.T) {
	for _, b := range bases() {
		for _, nought := range noughts() {
			holdText(t, nought, b, "0")
		}
	}
}

// holdBoth holds all three calls for a number above 0 and for what is as far below.
func holdBoth(t *testing.T, x api.Int, b int, s string) {
	t.Helper()
	holdText(t, x, b, s)
	holdText(t, about(x), b, "-"+s)
}

// P19.1 to P19.3: powers of the base and the numbers next to them, of both signs: a 1 and noughts, the base's last digit alone.
func TestPowersOfBase(t *testing.T) {
	t.Parallel()
	for _, b := range bases() {
		for n := 1; n <= 300; n++ {
			p := rightOf(raised(b, n))
			holdBoth(t, p, b, "1"+strings.Repeat("0", n))
			holdBoth(t, more(p, 1), b, "1"+strings.Repeat("0", n-1)+"1")
			holdBoth(t, more(p, -1), b, strings.Repeat(letters[b-1:b], n))
		}
	}
}

// P19.1 to P19.3: runs of noughts within a number, each run at every place, so that whole parts of a number are 0.
func TestNoughtsWithin(t *testing.T) {
	t.Parallel()
	for _, b := range someBases() {
		for n := 1; n <= 130; n += 3 {
			for m := 1; m <= 130; m += 3 {
				s := "1" + strings.Repeat("0", n) + letters[b-1:b] + strings.Repeat("0", m) + "1"
				x, _ := new(big.Int).SetString(s, b)
				holdBoth(t, rightOf(x), b, s)
			}
		}
	}
}

// edges are powers of two, the numbers next to them, and numbers of few limbs, above 0.
func edges() []api.Int {
	l := []api.Int{plus(1), plus(9), plus(10), plus(1000)}
	for _, n := range []int{5, 31, 32, 33, 58, 59, 60, 61, 62, 63, 64, 65, 127, 128, 129, 191, 192, 193, 256, 400, 1024, 4096} {
		l = append(l, more(two(n), -1), two(n), more(two(n), 1))
	}
	return append(l, plus(ones-1), plus(ones, 1), plus(0, ones), plus(1, ones), plus(ones, 1<<63), plus(0, 1, 1), plus(ones, 0, 1), plus(0, 0, ones), plus(0xaaaaaaaaaaaaaaaa, 0x5555555555555555), plus(1, 2, 3, 4, 5, 6, 7), full(7))
}

// P19.1 to P19.3: all edges, in all bases.
func TestEdges(t *testing.T) {
	t.Parallel()
	for _, b := range bases() {
		for _, x := range edges() {
			against(t, x, b)
		}
	}
}

// P19.1 to P19.3: numbers of all lengths, of one limb on, in all bases.
func TestLengths(t *testing.T) {
	t.Parallel()
	r := rand.New(rand.NewSource(191))
	for _, b := range bases() {
		for limbs := 1; limbs <= 70; limbs++ {
			for range 3 {
				against(t, drawn(r, limbs), b)
			}
		}
		for range 300 {
			against(t, drawn(r, 1+r.Intn(6)), b)
		}
	}
}

// P19.1 to P19.3: texts of all lengths, of drawn digits, noughts and last digits often among them.
func TestTexts(t *testing.T) {
	t.Parallel()
	r := rand.New(rand.NewSource(192))
	for _, b := range someBases() {
		for n := range 600 {
			s := []byte{letters[1+r.Intn(b-1)]}
			for range n {
				s = append(s, letters[[]int{0, 0, b - 1, r.Intn(b), r.Intn(b)}[r.Intn(5)]])
			}
			x, _ := new(big.Int).SetString(string(s), b)
			holdBoth(t, rightOf(x), b, string(s))
		}
	}
}

// P19.1 to P19.3: many limbs, up to 4096, in all bases.
func TestLongs(t *testing.T) {
	t.Parallel()
	r := rand.New(rand.NewSource(193))
	for _, b := range bases() {
		x := drawn(r, api.MaxLimbs)
		holdText(t, x, b, valueOf(x).Text(b))
	}
	for _, b := range []int{2, 10, 16, 35, 36} {
		for _, n := range []int{1000, 2047, 2048, 2049} {
			against(t, drawn(r, n), b)
		}
		for _, x := range []api.Int{two(maxBits - 1), more(two(maxBits-1), -1), about(more(full(api.MaxLimbs), -1)), drawn(r, 4095)} {
			holdText(t, x, b, valueOf(x).Text(b))
		}
	}
}

// mostDigits is how many digits the greatest number has that is not too long.
func mostDigits(b int) int { return len(valueOf(full(api.MaxLimbs)).Text(b)) }

// P19.1 to P19.3: the greatest power of a base that is not too long, one less and one more: 4096 limbs, or nearly so, of which every piece is noughts or last digits.
func TestLongPowersOfBase(t *testing.T) {
	t.Parallel()
	for _, b := range someBases() {
		n := mostDigits(b)
		p := rightOf(raised(b, n-1))
		holdBoth(t, p, b, "1"+strings.Repeat("0", n-1))
		holdBoth(t, more(p, 1), b, "1"+strings.Repeat("0", n-2)+"1")
		holdBoth(t, more(p, -1), b, strings.Repeat(letters[b-1:b], n-1))
	}
}

// refusedBoth holds Parse against an error for a text and for that with a - ahead.
func refusedBoth(t *testing.T, s string, b int, err api.Errno) {
	t.Helper()
	holdParse(t, s, b, api.Int{}, api.Fault{Err: err})
	holdParse(t, "-"+s, b, api.Int{}, api.Fault{Err: err})
}

// P19.2: in all bases 2^262144 - 1 is read, of both signs, and 2^262144 is refused; so are all that have more digits, up to 2^20 bytes.
func TestTooLong(t *testing.T) {
	t.Parallel()
	limit := new(big.Int).Lsh(big.NewInt(1), maxBits)
	for _, b := range bases() {
		t.Run(strconv.Itoa(b), func(t *testing.T) {
			t.Parallel()
			s := valueOf(full(api.MaxLimbs)).Text(b)
			holdText(t, full(api.MaxLimbs), b, s)
			holdParse(t, "-"+s, b, about(full(api.MaxLimbs)), api.Fault{})
			refusedBoth(t, limit.Text(b), b, api.ErrLong)
			refusedBoth(t, new(big.Int).Add(limit, big.NewInt(1)).Text(b), b, api.ErrLong)
			refusedBoth(t, "1"+strings.Repeat("0", len(s)), b, api.ErrLong)
			refusedBoth(t, strings.Repeat(letters[b-1:b], len(s)+1), b, api.ErrLong)
			refusedBoth(t, strings.Repeat("1", 1<<20-1), b, api.ErrLong)
			holdParse(t, strings.Repeat("1", 1<<20), b, api.Int{}, api.Fault{Err: api.ErrLong})
		})
	}
}

// P19.2: from 4096 limbs on each digit more is refused, whatever the digits are.
func TestEachDigitMore(t *testing.T) {
	t.Parallel()
	for _, b := range []int{2, 10, 36} {
		n := mostDigits(b)
		for length := n - 2; length <= n+66; length++ {
			s := "1" + strings.Repeat("0", length-1)
			if length > n {
				holdParse(t, s, b, api.Int{}, api.Fault{Err: api.ErrLong})
			} else {
				holdBoth(t, rightOf(raised(b, length-1)), b, s)
			}
		}
	}
}
