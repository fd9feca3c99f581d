package dyad_test

import (
	"encoding/binary"
	"math"
	"math/big"
	"math/rand"
	"slices"
	"testing"

	"rosette/api"
	"rosette/dyad"
)

const (
	most    = 1<<64 - 1
	maxBits = 64 * api.MaxLimbs
)

func of(neg bool, n uint64, exp int) api.Dyad { return api.Dyad{Neg: neg, Mag: []uint64{n}, Exp: exp} }

func one(exp int) api.Dyad { return of(false, 1, exp) }

func about(d api.Dyad) api.Dyad { d.Neg = !d.Neg; return d }

func same(a, b api.Dyad) bool {
	return a.Neg == b.Neg && slices.Equal(a.Mag, b.Mag) && a.Exp == b.Exp
}

func zero(d api.Dyad) bool { return same(d, api.Dyad{}) }

// full has so many limbs, all bits set.
func full(limbs, exp int) api.Dyad {
	return api.Dyad{Mag: slices.Repeat([]uint64{most}, limbs), Exp: exp}
}

// sparse is 2^bits + 1, scaled.
func sparse(bits, exp int) api.Dyad {
	m := make([]uint64, bits/64+1)
	m[bits/64] = 1 << (bits % 64)
	m[0] |= 1
	return api.Dyad{Mag: m, Exp: exp}
}

// exact is what a dyad is, reckoned by the library: n times 2 to the power exp.
type exact struct {
	n   *big.Int
	exp int
}

func valueOf(d api.Dyad) exact {
	n := new(big.Int).SetBytes(bytesOf(d.Mag))
	if d.Neg {
		n.Neg(n)
	}
	return exact{n, d.Exp}
}

func bytesOf(m []uint64) []byte {
	b := make([]byte, 0, 8*len(m))
	for _, x := range slices.Backward(m) {
		b = binary.BigEndian.AppendUint64(b, x)
	}
	return b
}

// at is x as a multiple of 2^last, which it must be.
func (x exact) at(last int) *big.Int { return new(big.Int).Lsh(x.n, uint(x.exp-last)) }

func both(x, y exact) (*big.Int, *big.Int, int) {
	last := min(x.exp, y.exp)
	return x.at(last), y.at(last), last
}

// right is the right dyad of x, or ErrLong.
func (x exact) right() (api.Dyad, api.Errno) {
	if x.n.Sign() == 0 {
		return api.Dyad{}, api.OK
	}
	size := new(big.Int).Abs(x.n)
	low := size.TrailingZeroBits()
	size.Rsh(size, low)
	exp := x.exp + int(low)
	if size.BitLen() > maxBits || exp < -api.MaxExp || exp > api.MaxExp {
		return api.Dyad{}, api.ErrLong
	}
	d := api.Dyad{Neg: x.n.Sign() < 0, Exp: exp}
	b := size.FillBytes(make([]byte, (size.BitLen()+63)/64*8))
	for i := len(b); i > 0; i -= 8 {
		d.Mag = append(d.Mag, binary.BigEndian.Uint64(b[i-8:]))
	}
	return d, api.OK
}

func sumOf(a, b api.Dyad) (api.Dyad, api.Errno) {
	m, n, last := both(valueOf(a), valueOf(b))
	return exact{m.Add(m, n), last}.right()
}

func lessOf(a, b api.Dyad) (api.Dyad, api.Errno) {
	m, n, last := both(valueOf(a), valueOf(b))
	return exact{m.Sub(m, n), last}.right()
}

func productOf(a, b api.Dyad) (api.Dyad, api.Errno) {
	x, y := valueOf(a), valueOf(b)
	return exact{new(big.Int).Mul(x.n, y.n), x.exp + y.exp}.right()
}

func orderOf(a, b api.Dyad) int {
	m, n, _ := both(valueOf(a), valueOf(b))
	return m.Cmp(n)
}

// floorOf is the greatest whole number not above x over 2^last, and whether it is just that.
func floorOf(x exact, last int) (*big.Int, bool) {
	if x.exp >= last {
		return x.at(last), true
	}
	q := new(big.Int).Rsh(x.n, uint(last-x.exp))
	return q, new(big.Int).Lsh(q, uint(last-x.exp)).Cmp(x.n) == 0
}

func cutOf(d api.Dyad, last int, up bool) (api.Dyad, api.Errno) {
	q, whole := floorOf(valueOf(d), last)
	if up && !whole {
		q.Add(q, big.NewInt(1))
	}
	return exact{q, last}.right()
}

func rootOf(d api.Dyad, last int, up bool) (api.Dyad, api.Errno) {
	q, whole := floorOf(valueOf(d), 2*last)
	if q.BitLen() > 2*maxBits { // the root of 2^(2 n) is 2^n
		return api.Dyad{}, api.ErrLong
	}
	r := new(big.Int).Sqrt(q)
	if up && !(whole && new(big.Int).Mul(r, r).Cmp(q) == 0) {
		r.Add(r, big.NewInt(1))
	}
	return exact{r, last}.right()
}

func floatOf(d api.Dyad) (float64, api.Errno) {
	x := valueOf(d)
	f, _ := new(big.Float).SetMantExp(new(big.Float).SetInt(x.n), x.exp).Float64()
	if math.IsInf(f, 0) {
		return 0, api.ErrOver
	}
	return f, api.OK
}

// rights are right dyads of all kinds: 0, small ones, those at the limits of limbs and exponents, of both signs.
func rights() []api.Dyad {
	l := []api.Dyad{
		one(0), one(1), one(-1), one(-2), of(false, 3, -2), of(false, 5, -2), of(false, 3, 0), of(false, most, 0), of(false, most, -64), of(false, 1<<63+1, 3), one(64), one(63), one(-1074), of(false, 1<<53+1, 0), of(false, 1<<53-1, 971),
		{Mag: []uint64{1, 1}}, {Mag: []uint64{most, most}, Exp: -128}, {Mag: []uint64{1, 0, 1 << 63}, Exp: 5}, {Mag: []uint64{most, 0, most}, Exp: -7}, {Mag: []uint64{1, 2, 3, 4}, Exp: -100},
		one(api.MaxExp), one(api.MaxExp - 1), one(-api.MaxExp), one(1 - api.MaxExp), of(false, 3, api.MaxExp), of(false, 3, -api.MaxExp), of(false, most, api.MaxExp), of(false, most, -api.MaxExp),
		one(maxBits), one(maxBits - 1), one(maxBits + 1), one(-maxBits), one(-maxBits - 1), one(-maxBits + 1), one(api.MaxExp / 2), one(-api.MaxExp / 2),
		full(api.MaxLimbs, 0), full(api.MaxLimbs, api.MaxExp), full(api.MaxLimbs, -api.MaxExp), full(api.MaxLimbs, -maxBits), full(api.MaxLimbs/2, 0), full(api.MaxLimbs/2+1, 3), sparse(maxBits-1, 0), sparse(maxBits/2, -9), full(api.MaxLimbs-1, 64),
	}
	for _, d := range l {
		l = append(l, about(d))
	}
	return append(l, api.Dyad{})
}

// wrongs are dyads that are not right, each by one fault alone.
func wrongs() []api.Dyad {
	long := full(api.MaxLimbs+1, 0)
	return []api.Dyad{
		{Neg: true}, {Exp: 1}, {Exp: -1}, {Neg: true, Mag: []uint64{}}, {Mag: []uint64{}, Exp: 7}, // 0, but not its dyad
		{Mag: []uint64{0}}, {Mag: []uint64{0, 0}, Exp: 3}, {Neg: true, Mag: []uint64{0}},
		of(false, 2, 0), of(true, 6, -1), {Mag: []uint64{0, 1}}, {Mag: []uint64{1 << 63, 1}}, // even
		{Mag: []uint64{1, 0}}, {Neg: true, Mag: []uint64{3, 7, 0}}, {Mag: append(full(api.MaxLimbs-1, 0).Mag, 0)}, // a nought on top
		one(api.MaxExp + 1), one(-api.MaxExp - 1), of(true, 3, math.MaxInt), of(false, 3, math.MinInt), // exponents
		long, about(long), {Mag: append([]uint64{1}, make([]uint64, api.MaxLimbs)...)}, sparse(maxBits, -5), // limbs
	}
}

// drawn are right dyads, the same ones at each run.
func drawn(r *rand.Rand) api.Dyad {
	m := make([]uint64, 1+r.Intn(4))
	for i := range m {
		m[i] = []uint64{0, most, r.Uint64(), r.Uint64(), r.Uint64() >> r.Intn(64)}[r.Intn(5)]
	}
	m[0] |= 1
	m[len(m)-1] |= 1 << r.Intn(64)
	return api.Dyad{Neg: r.Intn(2) == 0, Mag: m, Exp: r.Intn(300) - 150}
}

// short tells a dyad of few limbs whole, and the ends of others.
func short(d api.Dyad) api.Dyad {
	if n := len(d.Mag); n > 8 {
		d.Mag = []uint64{d.Mag[0], d.Mag[1], uint64(n), d.Mag[n-2], d.Mag[n-1]}
	}
	return d
}

// hold holds what a call told against what it should, which must be right, and zero beside an error.
func hold(t *testing.T, call string, args []any, got, want api.Dyad, e, f api.Errno) {
	t.Helper()
	if !same(got, want) || e != f {
		for i, a := range args {
			if d, ok := a.(api.Dyad); ok {
				args[i] = short(d)
			}
		}
		t.Fatalf("%s(%v) = %v, %v, but should be %v, %v", call, args, short(got), e, short(want), f)
	}
	if !dyad.Right(got) {
		t.Fatalf("%s(%v) is not right", call, args)
	}
}

// P3.1.
func TestRight(t *testing.T) {
	for _, d := range rights() {
		if !dyad.Right(d) {
			t.Errorf("Right(%v) is false", short(d))
		}
	}
	if !dyad.Right(api.Dyad{Mag: []uint64{}}) {
		t.Error("an empty list is not as none")
	}
	for _, d := range wrongs() {
		if dyad.Right(d) {
			t.Errorf("Right(%v) is true", short(d))
		}
	}
}

// P3.1.
func TestOf(t *testing.T) {
	for _, x := range []struct {
		f    float64
		want api.Dyad
	}{
		{0, api.Dyad{}}, {math.Copysign(0, -1), api.Dyad{}}, {1, one(0)}, {-1, of(true, 1, 0)}, {0.75, of(false, 3, -2)}, {-12, of(true, 3, 2)}, {10, of(false, 5, 1)},
		{5e-324, one(-1074)}, {-5e-324, of(true, 1, -1074)}, {3 * 0x1p-1074, of(false, 3, -1074)}, {0x1p-1022, one(-1022)}, {0x1p-1022 - 0x1p-1074, of(false, 1<<52-1, -1074)}, {0x1p-1022 + 0x1p-1074, of(false, 1<<52+1, -1074)},
		{math.MaxFloat64, of(false, 1<<53-1, 971)}, {-math.MaxFloat64, of(true, 1<<53-1, 971)}, {0x1p1023, one(1023)}, {1 + 0x1p-52, of(false, 1<<52+1, -52)}, {1 - 0x1p-53, of(false, 1<<53-1, -53)},
	} {
		got, e := dyad.Of(x.f)
		hold(t, "Of", []any{x.f}, got, x.want, e, api.OK)
	}
	for _, x := range []float64{math.NaN(), math.Inf(1), math.Inf(-1), math.Float64frombits(0xfff0000000000001)} {
		got, e := dyad.Of(x)
		hold(t, "Of", []any{x}, got, api.Dyad{}, e, api.ErrNumber)
	}
}

// P3.1, P3.6: Float of Of(x) is x, and of -0 it is +0.
func TestOfAndBack(t *testing.T) {
	r := rand.New(rand.NewSource(33))
	l := []float64{0, math.Copysign(0, -1), 1, 0.1, 5e-324, 0x1p-1022, 0x1p-1022 - 0x1p-1074, math.MaxFloat64, -math.MaxFloat64}
	for range 20000 {
		l = append(l, math.Float64frombits(r.Uint64()), math.Float64frombits(r.Uint64()&^(0x7ff<<52)))
	}
	for _, x := range l {
		if x-x != 0 {
			continue
		}
		d, e := dyad.Of(x)
		want, f := exactOf(x).right()
		hold(t, "Of", []any{x}, d, want, e, f)
		back, e := dyad.Float(d)
		if math.Float64bits(back) != math.Float64bits(x+0) || e != api.OK {
			t.Fatalf("Float(Of(%g)) = %g, %v", x, back, e)
		}
	}
}

// exactOf is a finite float, whose last bit is at 2^-1074 or above.
func exactOf(x float64) exact {
	n, _ := new(big.Float).SetMantExp(big.NewFloat(x), 1074).Int(nil)
	return exact{n, -1074}
}

// P3.1.
func TestInt(t *testing.T) {
	l := []int64{0, 1, -1, 2, -12, 255, 1 << 62, -1 << 62, math.MaxInt64, math.MaxInt64 - 1, math.MinInt64, math.MinInt64 + 1}
	r := rand.New(rand.NewSource(34))
	for range 1000 {
		l = append(l, int64(r.Uint64())>>r.Intn(64)<<r.Intn(3))
	}
	for _, n := range l {
		want, f := exact{big.NewInt(n), 0}.right()
		hold(t, "Int", []any{n}, dyad.Int(n), want, api.OK, f)
	}
	if d := dyad.Int(math.MinInt64); !same(d, of(true, 1, 63)) {
		t.Errorf("Int of the least int64 = %v", d)
	}
	if d := dyad.Int(-12); !same(d, of(true, 3, 2)) {
		t.Errorf("Int(-12) = %v", d)
	}
}

// holdPair holds all that goes by two dyads against the library's (P3.2).
func holdPair(t *testing.T, a, b api.Dyad) {
	t.Helper()
	for _, x := range []struct {
		name       string
		call, want func(a, b api.Dyad) (api.Dyad, api.Errno)
	}{{"Add", dyad.Add, sumOf}, {"Sub", dyad.Sub, lessOf}, {"Mul", dyad.Mul, productOf}} {
		got, e := x.call(a, b)
		want, f := x.want(a, b)
		hold(t, x.name, []any{a, b}, got, want, e, f)
	}
	if n, e := dyad.Cmp(a, b); n != orderOf(a, b) || e != api.OK {
		t.Fatalf("Cmp(%v, %v) = %d, %v", short(a), short(b), n, e)
	}
}

// P3.2.
func TestReckon(t *testing.T) {
	l := rights()
	for _, a := range l {
		for _, b := range l {
			holdPair(t, a, b)
		}
	}
	r := rand.New(rand.NewSource(35))
	for range 20000 {
		a, b := drawn(r), drawn(r)
		if r.Intn(3) == 0 {
			b.Exp = a.Exp
		}
		if r.Intn(8) == 0 {
			b = about(a)
		}
		holdPair(t, a, b)
	}
}

// P3.2: what the chapter's examples say, told without the library.
func TestReckonExamples(t *testing.T) {
	for _, x := range []struct {
		name    string
		call    func(a, b api.Dyad) (api.Dyad, api.Errno)
		a, b, c api.Dyad
	}{
		{"Add", dyad.Add, of(false, 3, -2), one(-2), one(0)}, {"Sub", dyad.Sub, one(-2), one(-2), api.Dyad{}}, {"Mul", dyad.Mul, of(true, 3, -2), one(1), of(true, 3, -1)},
		{"Mul", dyad.Mul, of(true, 3, 5), api.Dyad{}, api.Dyad{}}, {"Add", dyad.Add, of(true, 3, 0), of(false, 1, 0), of(true, 1, 1)}, {"Sub", dyad.Sub, api.Dyad{}, of(false, 3, 1), of(true, 3, 1)},
		{"Mul", dyad.Mul, of(false, most, 0), of(false, most, 0), api.Dyad{Mag: []uint64{1, most - 1}}}, {"Add", dyad.Add, of(false, most, 0), one(0), one(64)},
	} {
		got, e := x.call(x.a, x.b)
		hold(t, x.name, []any{x.a, x.b}, got, x.c, e, api.OK)
	}
	if n, e := dyad.Cmp(of(true, 1, 0), one(-2)); n != -1 || e != api.OK {
		t.Errorf("Cmp(-1, 1/4) = %d, %v", n, e)
	}
}

// P3.2: just within the limits, and just past them.
func TestReckonLimits(t *testing.T) {
	long := full(api.MaxLimbs, 0)
	half := full(api.MaxLimbs/2, 0)
	for _, x := range []struct {
		name string
		call func(a, b api.Dyad) (api.Dyad, api.Errno)
		a, b api.Dyad
		e    api.Errno
	}{
		{"Add", dyad.Add, long, one(0), api.OK}, {"Add", dyad.Add, long, long, api.OK}, {"Add", dyad.Add, long, one(1), api.ErrLong}, {"Sub", dyad.Sub, long, one(1), api.OK},
		{"Add", dyad.Add, one(maxBits - 1), one(0), api.OK}, {"Add", dyad.Add, one(maxBits), one(0), api.ErrLong}, {"Sub", dyad.Sub, one(maxBits), one(0), api.OK}, {"Sub", dyad.Sub, one(maxBits + 1), one(0), api.ErrLong}, {"Sub", dyad.Sub, one(maxBits + 1), long, api.ErrLong}, {"Sub", dyad.Sub, one(maxBits), long, api.OK}, {"Sub", dyad.Sub, one(0), one(maxBits), api.OK},
		{"Add", dyad.Add, one(api.MaxExp), one(api.MaxExp), api.ErrLong}, {"Add", dyad.Add, one(api.MaxExp - 1), one(api.MaxExp - 1), api.OK}, {"Sub", dyad.Sub, one(api.MaxExp), one(api.MaxExp), api.OK}, {"Add", dyad.Add, one(api.MaxExp), one(-api.MaxExp), api.ErrLong}, {"Sub", dyad.Sub, of(false, 3, api.MaxExp), one(api.MaxExp), api.ErrLong}, {"Add", dyad.Add, one(-api.MaxExp), one(-api.MaxExp), api.OK},
		{"Mul", dyad.Mul, half, half, api.OK}, {"Mul", dyad.Mul, half, full(api.MaxLimbs/2+1, 0), api.ErrLong}, {"Mul", dyad.Mul, half, sparse(maxBits/2, 0), api.OK}, {"Mul", dyad.Mul, half, sparse(maxBits/2+1, 0), api.ErrLong}, {"Mul", dyad.Mul, sparse(maxBits/2-1, 0), sparse(maxBits/2, 0), api.OK}, {"Mul", dyad.Mul, long, of(false, 3, 0), api.ErrLong}, {"Mul", dyad.Mul, sparse(maxBits-2, 0), of(false, 3, 0), api.OK}, {"Mul", dyad.Mul, long, of(true, 1, 9), api.OK}, {"Mul", dyad.Mul, long, long, api.ErrLong},
		{"Mul", dyad.Mul, one(api.MaxExp), one(0), api.OK}, {"Mul", dyad.Mul, one(api.MaxExp), one(1), api.ErrLong}, {"Mul", dyad.Mul, one(api.MaxExp), one(-1), api.OK}, {"Mul", dyad.Mul, one(-api.MaxExp), one(-1), api.ErrLong}, {"Mul", dyad.Mul, one(-api.MaxExp), one(0), api.OK}, {"Mul", dyad.Mul, one(api.MaxExp), one(-api.MaxExp), api.OK}, {"Mul", dyad.Mul, one(api.MaxExp), one(api.MaxExp), api.ErrLong}, {"Mul", dyad.Mul, one(api.MaxExp), api.Dyad{}, api.OK},
	} {
		if d, e := x.call(x.a, x.b); e != x.e || e != api.OK && !zero(d) {
			t.Errorf("%s(%v, %v) = %v, %v", x.name, short(x.a), short(x.b), short(d), e)
		}
		holdPair(t, x.a, x.b)
	}
}

// P3.2.
func TestNeg(t *testing.T) {
	for _, d := range rights() {
		want := about(d)
		if zero(d) {
			want = d
		}
		got, e := dyad.Neg(d)
		hold(t, "Neg", []any{d}, got, want, e, api.OK)
	}
}

// P3.2: powers of any int.
func TestScale(t *testing.T) {
	powers := []int{0, 1, -1, 63, 64, -1000, api.MaxExp - 1, api.MaxExp, api.MaxExp + 1, -api.MaxExp + 1, -api.MaxExp, -api.MaxExp - 1, 2*api.MaxExp - 1, 2 * api.MaxExp, 2*api.MaxExp + 1, -2*api.MaxExp + 1, -2 * api.MaxExp, -2*api.MaxExp - 1, math.MaxInt, math.MaxInt - api.MaxExp, math.MaxInt - 1, math.MinInt, math.MinInt + api.MaxExp, math.MinInt + 1, math.MaxInt32, math.MinInt32}
	for _, d := range rights() {
		for _, power := range powers {
			want, f := d, api.OK
			if exp := new(big.Int).Add(big.NewInt(int64(d.Exp)), big.NewInt(int64(power))); zero(d) {
				want = d
			} else if exp.CmpAbs(big.NewInt(api.MaxExp)) > 0 {
				want, f = api.Dyad{}, api.ErrLong
			} else {
				want.Exp = int(exp.Int64())
			}
			got, e := dyad.Scale(d, power)
			hold(t, "Scale", []any{d, power}, got, want, e, f)
		}
	}
}

// P3.3.
func TestCut(t *testing.T) {
	for _, x := range []struct {
		d        api.Dyad
		last     int
		down, up api.Dyad
	}{
		{of(false, 5, -2), 0, one(0), one(1)}, {of(true, 5, -2), 0, of(true, 1, 1), of(true, 1, 0)}, {of(false, 5, -2), -2, of(false, 5, -2), of(false, 5, -2)}, {of(false, 5, -2), 3, api.Dyad{}, one(3)}, {of(true, 5, -2), 3, of(true, 1, 3), api.Dyad{}},
		{api.Dyad{}, 5, api.Dyad{}, api.Dyad{}}, {api.Dyad{}, -5, api.Dyad{}, api.Dyad{}}, {one(-api.MaxExp), api.MaxExp, api.Dyad{}, one(api.MaxExp)}, {of(true, 1, -api.MaxExp), api.MaxExp, of(true, 1, api.MaxExp), api.Dyad{}},
		{of(false, most, 0), 1, of(false, 1<<63-1, 1), one(64)}, {api.Dyad{Mag: []uint64{1, 1}}, 1, one(64), of(false, 1<<63+1, 1)}, {one(api.MaxExp), api.MaxExp, one(api.MaxExp), one(api.MaxExp)}, {one(api.MaxExp), -api.MaxExp, one(api.MaxExp), one(api.MaxExp)},
	} {
		got, e := dyad.Cut(x.d, x.last, false)
		hold(t, "Cut", []any{x.d, x.last, false}, got, x.down, e, api.OK)
		got, e = dyad.Cut(x.d, x.last, true)
		hold(t, "Cut", []any{x.d, x.last, true}, got, x.up, e, api.OK)
	}
}

// holdCut holds both sides of a cut against the library's, and their places beside what was cut (P3.3, P3.6).
func holdCut(t *testing.T, d api.Dyad, last int) {
	t.Helper()
	for _, up := range []bool{false, true} {
		got, e := dyad.Cut(d, last, up)
		want, f := cutOf(d, last, up)
		hold(t, "Cut", []any{d, last, up}, got, want, e, f)
		if e != api.OK {
			continue
		}
		side := orderOf(got, d)
		if up && side < 0 || !up && side > 0 {
			t.Fatalf("Cut(%v, %d, %v) is on the other side", short(d), last, up)
		}
		m, n, at := both(valueOf(got), valueOf(d))
		apart := exact{new(big.Int).Abs(m.Sub(m, n)), at}
		x, y, _ := both(apart, exact{big.NewInt(1), last})
		if x.Cmp(y) >= 0 {
			t.Fatalf("Cut(%v, %d, %v) is too far off", short(d), last, up)
		}
	}
}

// P3.3, P3.6.
func TestCutAll(t *testing.T) {
	lasts := []int{0, 1, -1, 2, 63, 64, 65, -64, -65, 127, 128, -1074, 1000, maxBits - 1, maxBits, maxBits + 1, -maxBits, api.MaxExp, api.MaxExp - 1, -api.MaxExp, 1 - api.MaxExp}
	for _, d := range rights() {
		for _, last := range append(lasts, d.Exp, min(d.Exp+1, api.MaxExp)) {
			holdCut(t, d, last)
		}
	}
	r := rand.New(rand.NewSource(36))
	for range 20000 {
		d := drawn(r)
		holdCut(t, d, d.Exp-3+r.Intn(64*len(d.Mag)+9))
	}
}

// P3.3: what is cut may be too long, if it is carried past the greatest exponent.
func TestCutLong(t *testing.T) {
	for _, x := range []struct {
		d    api.Dyad
		up   bool
		want api.Dyad
		e    api.Errno
	}{
		{of(false, 3, api.MaxExp-1), true, api.Dyad{}, api.ErrLong}, {of(false, 3, api.MaxExp-1), false, one(api.MaxExp), api.OK}, {of(true, 3, api.MaxExp-1), false, api.Dyad{}, api.ErrLong}, {of(true, 3, api.MaxExp-1), true, of(true, 1, api.MaxExp), api.OK}, {of(false, 5, api.MaxExp-1), false, api.Dyad{}, api.ErrLong}, {of(false, 5, api.MaxExp-1), true, of(false, 3, api.MaxExp), api.OK},
	} {
		got, e := dyad.Cut(x.d, api.MaxExp, x.up)
		hold(t, "Cut", []any{x.d, api.MaxExp, x.up}, got, x.want, e, x.e)
	}
}

// P3.4.
func TestRoot(t *testing.T) {
	for _, x := range []struct {
		d        api.Dyad
		last     int
		down, up api.Dyad
	}{
		{one(1), 0, one(0), one(1)}, {one(1), -4, of(false, 11, -3), of(false, 23, -4)}, {of(false, 9, -2), -1, of(false, 3, -1), of(false, 3, -1)}, {one(-2), 3, api.Dyad{}, one(3)}, {api.Dyad{}, 3, api.Dyad{}, api.Dyad{}}, {api.Dyad{}, -api.MaxExp, api.Dyad{}, api.Dyad{}}, {api.Dyad{}, api.MaxExp, api.Dyad{}, api.Dyad{}},
		{of(false, 3, 0), 0, one(0), one(1)}, {one(2), 0, one(1), one(1)}, {of(false, 5, 0), 0, one(1), of(false, 3, 0)}, {of(false, 9, 0), 0, of(false, 3, 0), of(false, 3, 0)}, {of(false, 9, 0), 1, one(1), one(2)}, {of(false, 9, 0), 2, api.Dyad{}, one(2)}, {one(-2), -1, one(-1), one(-1)}, {one(-3), -1, api.Dyad{}, one(-1)}, {one(0), 0, one(0), one(0)}, {of(false, 1, -1), 0, api.Dyad{}, one(0)},
		{one(api.MaxExp), api.MaxExp, api.Dyad{}, one(api.MaxExp)}, {one(api.MaxExp), api.MaxExp / 2, one(api.MaxExp / 2), one(api.MaxExp / 2)}, {one(-api.MaxExp), -api.MaxExp / 2, one(-api.MaxExp / 2), one(-api.MaxExp / 2)},
		{api.Dyad{Mag: []uint64{1, most - 1}}, 0, of(false, most, 0), of(false, most, 0)}, {api.Dyad{Mag: []uint64{most, most}}, 0, of(false, most, 0), one(64)},
	} {
		got, e := dyad.Root(x.d, x.last, false)
		hold(t, "Root", []any{x.d, x.last, false}, got, x.down, e, api.OK)
		got, e = dyad.Root(x.d, x.last, true)
		hold(t, "Root", []any{x.d, x.last, true}, got, x.up, e, api.OK)
	}
}

func holdRoot(t *testing.T, d api.Dyad, last int) {
	t.Helper()
	for _, up := range []bool{false, true} {
		got, e := dyad.Root(d, last, up)
		want, f := rootOf(d, last, up)
		hold(t, "Root", []any{d, last, up}, got, want, e, f)
	}
}

// P3.4: squares, and what lies beside them, cut at several places.
func TestRootAll(t *testing.T) {
	r := rand.New(rand.NewSource(37))
	for range 6000 {
		d := drawn(r)
		d.Neg = false
		if r.Intn(2) == 0 {
			d, _ = dyad.Mul(d, d)
		}
		switch step := one(d.Exp - r.Intn(70)); r.Intn(4) {
		case 0:
			d, _ = dyad.Add(d, step)
		case 1:
			d, _ = dyad.Sub(d, step)
		}
		if d.Neg {
			continue
		}
		holdRoot(t, d, d.Exp/2-40+r.Intn(200))
	}
	for _, d := range rights() {
		if d.Neg {
			continue
		}
		lasts := []int{0, 1, -1, -64, 700, d.Exp / 2, api.MaxExp, maxBits}
		if len(d.Mag) > 100 { // these take long
			lasts = []int{d.Exp / 2, maxBits}
		}
		for _, last := range lasts {
			holdRoot(t, d, last)
		}
	}
}

// P3.4: a root of 4096 limbs is told, one of a bit more is too long, even if it is a power of two.
func TestRootLong(t *testing.T) {
	root := full(api.MaxLimbs, 0)
	for _, x := range []struct {
		d    api.Dyad
		last int
		up   bool
		want api.Dyad
		e    api.Errno
	}{
		{one(0), -api.MaxExp, false, api.Dyad{}, api.ErrLong}, {one(0), -api.MaxExp, true, api.Dyad{}, api.ErrLong}, {one(0), -maxBits, false, api.Dyad{}, api.ErrLong}, {one(0), 1 - maxBits, false, one(0), api.OK}, {one(0), 1 - maxBits, true, one(0), api.OK},
		{one(2 * maxBits), 0, false, api.Dyad{}, api.ErrLong}, {one(2 * maxBits), 1, false, one(maxBits), api.OK}, {one(2*maxBits - 2), 0, true, one(maxBits - 1), api.OK},
		{full(api.MaxLimbs, maxBits), 0, false, root, api.OK}, {full(api.MaxLimbs, maxBits), 0, true, one(maxBits), api.OK}, {full(api.MaxLimbs, maxBits+1), 0, true, api.Dyad{}, api.ErrLong}, {full(api.MaxLimbs, 0), 0, true, one(maxBits / 2), api.OK},
		{full(api.MaxLimbs, api.MaxExp), -api.MaxExp, true, api.Dyad{}, api.ErrLong}, {full(api.MaxLimbs, -api.MaxExp), api.MaxExp, true, one(api.MaxExp), api.OK}, {full(api.MaxLimbs, -api.MaxExp), api.MaxExp, false, api.Dyad{}, api.OK},
	} {
		got, e := dyad.Root(x.d, x.last, x.up)
		hold(t, "Root", []any{x.d, x.last, x.up}, got, x.want, e, x.e)
	}
	r := rand.New(rand.NewSource(38))
	d := full(api.MaxLimbs, 2*maxBits-maxBits)
	for i := range d.Mag {
		d.Mag[i] = r.Uint64() | 1
	}
	holdRoot(t, d, 0)
}

// P3.4: what is not asked for rightly.
func TestRootWrong(t *testing.T) {
	for _, x := range []struct {
		d    api.Dyad
		last int
	}{
		{of(true, 1, 0), 0}, {of(true, 3, -api.MaxExp), 5}, {one(0), api.MaxExp + 1}, {one(0), -api.MaxExp - 1}, {one(0), math.MaxInt}, {one(0), math.MinInt}, {api.Dyad{}, api.MaxExp + 1}, {api.Dyad{}, -api.MaxExp - 1}, {of(true, 1, 0), -api.MaxExp},
	} {
		for _, up := range []bool{false, true} {
			got, e := dyad.Root(x.d, x.last, up)
			hold(t, "Root", []any{x.d, x.last, up}, got, api.Dyad{}, e, api.ErrArg)
		}
	}
}

// P3.3: what is not asked for rightly.
func TestCutWrong(t *testing.T) {
	for _, last := range []int{api.MaxExp + 1, -api.MaxExp - 1, math.MaxInt, math.MinInt} {
		for _, d := range []api.Dyad{{}, one(0), of(true, 3, api.MaxExp)} {
			for _, up := range []bool{false, true} {
				got, e := dyad.Cut(d, last, up)
				hold(t, "Cut", []any{d, last, up}, got, api.Dyad{}, e, api.ErrArg)
			}
		}
	}
}

func holdFloat(t *testing.T, d api.Dyad, want float64, f api.Errno) {
	t.Helper()
	if got, e := dyad.Float(d); math.Float64bits(got) != math.Float64bits(want) || e != f {
		t.Errorf("Float(%v) = %g, %v, but should be %g, %v", short(d), got, e, want, f)
	}
}

// P3.5.
func TestFloat(t *testing.T) {
	minus := math.Copysign(0, -1)
	for _, x := range []struct {
		d    api.Dyad
		want float64
		e    api.Errno
	}{
		{api.Dyad{}, 0, api.OK}, {one(0), 1, api.OK}, {of(true, 3, -2), -0.75, api.OK}, {of(false, 1<<53-1, 0), 1<<53 - 1, api.OK},
		{of(false, 1<<53+1, 0), 1 << 53, api.OK}, {of(false, 1<<53+3, 0), 1<<53 + 4, api.OK}, {of(true, 1<<53+1, 0), -1 << 53, api.OK}, {of(false, 1<<54+3, 0), 1<<54 + 4, api.OK}, {of(false, 1<<54+1, 0), 1 << 54, api.OK}, {of(false, 1<<54-1, 0), 1 << 54, api.OK}, {of(false, most, 0), 1 << 64, api.OK},
		{sparse(100, 0), 0x1p100, api.OK}, {api.Dyad{Mag: []uint64{1, 1<<53 + 1}}, 0x1p64 * (1<<53 + 2), api.OK}, {api.Dyad{Mag: []uint64{most, 1 << 53}}, 0x1p64 * (1 << 53), api.OK},
		{one(1023), 0x1p1023, api.OK}, {one(1024), 0, api.ErrOver}, {of(true, 1, 1024), 0, api.ErrOver}, {of(false, 1<<53-1, 971), math.MaxFloat64, api.OK}, {of(false, 1<<54-1, 970), 0, api.ErrOver}, {of(true, 1<<54-1, 970), 0, api.ErrOver}, {of(false, 1<<55-3, 969), math.MaxFloat64, api.OK}, {of(true, 1<<64-1<<10-1, 960), -math.MaxFloat64, api.OK},
		{one(-1074), 5e-324, api.OK}, {one(-1075), 0, api.OK}, {of(true, 1, -1075), minus, api.OK}, {of(false, 3, -1075), 0x1p-1073, api.OK}, {of(true, 3, -1075), -0x1p-1073, api.OK}, {of(false, 5, -1075), 0x1p-1073, api.OK}, {of(false, 3, -1076), 5e-324, api.OK}, {of(false, 1, -1076), 0, api.OK}, {of(true, 1, -1076), minus, api.OK}, {sparse(100, -1175), 5e-324, api.OK}, {of(true, most, -1138), -5e-324, api.OK}, {of(true, most, -1139), minus, api.OK},
		{of(false, 1<<53-1, -1075), 0x1p-1022, api.OK}, {of(false, 1<<53-3, -1075), 0x1p-1022 - 0x1p-1073, api.OK}, {of(false, 1<<53+1, -1075), 0x1p-1022, api.OK}, {of(false, 1<<54-1, -1075), 0x1p-1021, api.OK}, {of(false, 1<<53+1, -1074), 0x1p-1021, api.OK},
		{one(api.MaxExp), 0, api.ErrOver}, {one(-api.MaxExp), 0, api.OK}, {of(true, 3, -api.MaxExp), minus, api.OK}, {full(api.MaxLimbs, api.MaxExp), 0, api.ErrOver}, {full(api.MaxLimbs, -api.MaxExp), 0, api.OK}, {full(api.MaxLimbs, -maxBits), 1, api.OK}, {sparse(maxBits-1, -maxBits+1), 1, api.OK}, {full(api.MaxLimbs, 1023-maxBits), 0x1p1023, api.OK}, {full(api.MaxLimbs, 1024-maxBits), 0, api.ErrOver}, {full(api.MaxLimbs, -maxBits-1074), 5e-324, api.OK}, {full(api.MaxLimbs, -maxBits-1075), 0, api.OK},
	} {
		holdFloat(t, x.d, x.want, x.e)
	}
}

// P3.5, held against the library: ties and their neighbours, at all exponents of floats.
func TestFloatAll(t *testing.T) {
	for _, d := range rights() {
		want, f := floatOf(d)
		holdFloat(t, d, want, f)
	}
	r := rand.New(rand.NewSource(39))
	for range 30000 {
		d := drawn(r)
		if r.Intn(2) == 0 {
			tie := r.Uint64()>>11 | 1
			d.Mag = [][]uint64{{tie}, {tie<<10 | 1<<9 + 1}, {1, tie << 9}, {tie<<2 | 3}}[r.Intn(4)]
		}
		d.Exp = []int{-1074, 1024, 0}[r.Intn(3)] + r.Intn(300) - 200
		want, f := floatOf(d)
		holdFloat(t, d, want, f)
	}
}

// P3.2 to P3.5, R8: a dyad that is not right is refused first of all, whatever else is asked.
func TestWrongDyads(t *testing.T) {
	for _, d := range wrongs() {
		for _, x := range append(wrongs(), rights()...) {
			for _, call := range []func(a, b api.Dyad) (api.Dyad, api.Errno){dyad.Add, dyad.Sub, dyad.Mul} {
				p, e := call(d, x)
				q, f := call(x, d)
				if !zero(p) || !zero(q) || e != api.ErrArg || f != api.ErrArg {
					t.Fatalf("%v, %v: %v, %v, %v, %v", short(d), short(x), short(p), e, short(q), f)
				}
			}
			n, e := dyad.Cmp(d, x)
			m, f := dyad.Cmp(x, d)
			if n != 0 || m != 0 || e != api.ErrArg || f != api.ErrArg {
				t.Fatalf("Cmp of %v, %v", short(d), short(x))
			}
		}
		p, e := dyad.Neg(d)
		hold(t, "Neg", []any{d}, p, api.Dyad{}, e, api.ErrArg)
		for _, n := range []int{0, 1, -api.MaxExp, api.MaxExp, api.MaxExp + 1, math.MaxInt, math.MinInt} {
			p, e = dyad.Scale(d, n)
			hold(t, "Scale", []any{d, n}, p, api.Dyad{}, e, api.ErrArg)
			for _, up := range []bool{false, true} {
				p, e = dyad.Cut(d, n, up)
				hold(t, "Cut", []any{d, n, up}, p, api.Dyad{}, e, api.ErrArg)
				p, e = dyad.Root(d, n, up)
				hold(t, "Root", []any{d, n, up}, p, api.Dyad{}, e, api.ErrArg)
			}
		}
		holdFloat(t, d, 0, api.ErrArg)
	}
}

// P3.6: the laws of a ring, and of an order.
func TestLaws(t *testing.T) {
	r := rand.New(rand.NewSource(40))
	sure := func(d api.Dyad, e api.Errno) api.Dyad {
		t.Helper()
		if e != api.OK {
			t.Fatal(e)
		}
		return d
	}
	add := func(a, b api.Dyad) api.Dyad { return sure(dyad.Add(a, b)) }
	mul := func(a, b api.Dyad) api.Dyad { return sure(dyad.Mul(a, b)) }
	for range 3000 {
		a, b, c := drawn(r), drawn(r), drawn(r)
		minus := sure(dyad.Neg(b))
		for i, p := range [][2]api.Dyad{
			{add(a, b), add(b, a)}, {add(add(a, b), c), add(a, add(b, c))}, {mul(a, b), mul(b, a)}, {mul(mul(a, b), c), mul(a, mul(b, c))}, {mul(a, add(b, c)), add(mul(a, b), mul(a, c))}, {add(a, api.Dyad{}), a}, {mul(a, one(0)), a}, {sure(dyad.Sub(a, b)), add(a, minus)}, {add(b, minus), {}}, {sure(dyad.Sub(add(a, b), b)), a}, {sure(dyad.Scale(a, 9)), mul(a, one(9))},
		} {
			if !same(p[0], p[1]) {
				t.Fatalf("law %d of %v, %v, %v", i, a, b, c)
			}
		}
		n, _ := dyad.Cmp(a, b)
		m, _ := dyad.Cmp(add(a, c), add(b, c))
		less := sure(dyad.Sub(a, b))
		if n != m || less.Neg != (n < 0) || zero(less) != (n == 0) {
			t.Fatalf("order of %v, %v, %v", a, b, c)
		}
	}
}

// spare is d in a list with spare room, all of which is told, too.
func spare(d api.Dyad) (api.Dyad, []uint64) {
	room := append(slices.Clone(d.Mag), 77, 78, 79)
	d.Mag = room[:len(d.Mag)]
	return d, room
}

// R3: what is handed in stays as it was, its spare room too; what is told is new memory.
func TestMemory(t *testing.T) {
	l := []api.Dyad{{}, one(0), one(5), of(false, 9, -2), {Mag: []uint64{1, 7}, Exp: 3}, {Mag: []uint64{1, 2, 3}, Exp: -200}, full(40, 0), full(api.MaxLimbs, 0)}
	calls := map[string]func(a, b api.Dyad) (api.Dyad, api.Errno){
		"Add": dyad.Add, "Sub": dyad.Sub, "Mul": dyad.Mul,
		"Neg":   func(a, _ api.Dyad) (api.Dyad, api.Errno) { return dyad.Neg(a) },
		"Scale": func(a, _ api.Dyad) (api.Dyad, api.Errno) { return dyad.Scale(a, 0) },
		"Cut":   func(a, _ api.Dyad) (api.Dyad, api.Errno) { return dyad.Cut(a, -api.MaxExp, true) },
		"Cut 1": func(a, _ api.Dyad) (api.Dyad, api.Errno) { return dyad.Cut(a, 1, true) },
		"Root":  func(a, _ api.Dyad) (api.Dyad, api.Errno) { return dyad.Root(a, -1, true) },
		"Cmp":   func(a, b api.Dyad) (api.Dyad, api.Errno) { _, e := dyad.Cmp(a, b); return api.Dyad{}, e },
		"Float": func(a, _ api.Dyad) (api.Dyad, api.Errno) { _, e := dyad.Float(a); return api.Dyad{}, e },
		"Right": func(a, _ api.Dyad) (api.Dyad, api.Errno) { dyad.Right(a); return api.Dyad{}, api.OK },
	}
	for name, call := range calls {
		for _, x := range l {
			for _, y := range l {
				a, inA := spare(x)
				b, inB := spare(y)
				d, _ := call(a, b)
				told := slices.Clone(d.Mag)
				wantA, wantB := append(slices.Clone(x.Mag), 77, 78, 79), append(slices.Clone(y.Mag), 77, 78, 79)
				if !slices.Equal(inA, wantA) || !slices.Equal(inB, wantB) {
					t.Fatalf("%s changed what it was handed: %v, %v", name, short(x), short(y))
				}
				for i := range inA {
					inA[i] = 5
				}
				for i := range inB {
					inB[i] = 5
				}
				if !slices.Equal(d.Mag, told) {
					t.Fatalf("%s of %v, %v shares memory", name, short(x), short(y))
				}
				for i := range d.Mag[:cap(d.Mag)] {
					d.Mag[:cap(d.Mag)][i] = 6
				}
				if slices.Contains(inA, 6) || slices.Contains(inB, 6) {
					t.Fatalf("%s of %v, %v shares spare room", name, short(x), short(y))
				}
			}
		}
	}
}

// R3: no answer shares memory with one told before, not of the same arguments either.
func TestNewEachTime(t *testing.T) {
	for name, call := range map[string]func() api.Dyad{
		"Of":  func() api.Dyad { d, _ := dyad.Of(0.75); return d },
		"Int": func() api.Dyad { return dyad.Int(3) },
		"Add": func() api.Dyad { d, _ := dyad.Add(one(0), one(1)); return d },
		"Cut": func() api.Dyad { d, _ := dyad.Cut(one(-1), 0, true); return d },
	} {
		a, b := call(), call()
		want := slices.Clone(b.Mag)
		for i := range a.Mag[:cap(a.Mag)] {
			a.Mag[:cap(a.Mag)][i] = 99
		}
		if !slices.Equal(b.Mag, want) || !slices.Equal(call().Mag, want) {
			t.Errorf("%s shares memory", name)
		}
	}
}
