package parts_test

import (
	"math"
	"math/big"
	"math/rand"
	"testing"

	"rosette/api"
	"rosette/parts"
)

const (
	least     = 0x1p-1074 // the least subnormal part
	leastFull = 0x1p-1022 // the least part that is not subnormal
	great     = math.MaxFloat64
)

var (
	minus = math.Copysign(0, -1)
	inf   = math.Inf(1)
	nan   = math.NaN()
	// other is a NaN of other bits, its sign bit set.
	other = math.Float64frombits(0xfff8000000000123)
)

// edges are the parts at which steps go otherwise than in between.
func edges() []float64 {
	l := []float64{
		0, least, 2 * least, 3 * least, 5 * least, leastFull - least, leastFull, leastFull + least,
		0x1p-537, 0x1p-30, 0.1, 0.5, 1 - 0x1p-53, 1, 1 + 0x1p-52, 1.5, 2, 3, 1 << 53, 1<<53 + 2,
		0x1p511, 0x1p512, 0x1p1023, great, inf,
	}
	for _, x := range l {
		l = append(l, -x)
	}
	l[len(l)/2] = minus
	return append(l, nan, other)
}

// numbers are all numbers with parts at the edges.
func numbers() []complex128 {
	var l []complex128
	for _, re := range edges() {
		for _, im := range edges() {
			l = append(l, complex(re, im))
		}
	}
	return l
}

// few are numbers enough to be taken two by two.
func few() []complex128 {
	var l []complex128
	for _, re := range []float64{0, minus, least, -3 * least, 0.1, -1, 1 + 0x1p-52, -0x1p512, great, inf, -inf, nan} {
		for _, im := range []float64{0, minus, -least, 0.3, 1, -3, great, -inf, nan} {
			l = append(l, complex(re, im))
		}
	}
	return l
}

// drawn are numbers of all kinds, the same ones at each run.
func drawn(n int, low, high int) []complex128 {
	r := rand.New(rand.NewSource(1))
	part := func() float64 {
		x := math.Ldexp(1+r.Float64(), low+r.Intn(high-low))
		if r.Intn(2) == 0 {
			return -x
		}
		return x
	}
	l := make([]complex128, n)
	for i := range l {
		l[i] = complex(part(), part())
	}
	return l
}

// samePart holds bits against bits, without the package's own words.
func samePart(x, y float64) bool {
	if x != x || y != y {
		return x != x && y != y
	}
	return math.Float64bits(x) == math.Float64bits(y)
}

func same(a, b complex128) bool {
	return samePart(real(a), real(b)) && samePart(imag(a), imag(b))
}

func like(a, b complex128) bool {
	one := func(x, y float64) bool { return x == y || x != x && y != y }
	return one(real(a), real(b)) && one(imag(a), imag(b))
}

func wantSame(t *testing.T, what string, got, want complex128) {
	t.Helper()
	if !same(got, want) {
		t.Errorf("%s: got %v, want %v", what, got, want)
	}
}

// P1.1
func TestCompare(t *testing.T) {
	for _, c := range []struct {
		a, b       complex128
		same, like bool
	}{
		{complex(1, 2), complex(1, 2), true, true},
		{complex(1, 2), complex(1, 3), false, false},
		{complex(1, 2), complex(3, 2), false, false},
		{complex(1, 2), complex(2, 1), false, false},
		{complex(0, 0), complex(minus, 0), false, true},
		{complex(0, 0), complex(0, minus), false, true},
		{complex(minus, minus), complex(minus, minus), true, true},
		{complex(nan, 1), complex(nan, 1), true, true},
		{complex(nan, 1), complex(other, 1), true, true},
		{complex(1, other), complex(1, nan), true, true},
		{complex(nan, nan), complex(other, other), true, true},
		{complex(nan, 0), complex(nan, minus), false, true},
		{complex(nan, 1), complex(1, 1), false, false},
		{complex(1, 1), complex(1, nan), false, false},
		{complex(nan, 1), complex(1, nan), false, false},
		{complex(inf, -inf), complex(inf, -inf), true, true},
		{complex(inf, 1), complex(-inf, 1), false, false},
		{complex(inf, 1), complex(nan, 1), false, false},
		{complex(least, 1), complex(0, 1), false, false},
		{complex(1, least), complex(1, -least), false, false},
		{complex(1, 1), complex(1, 1+0x1p-52), false, false},
	} {
		if parts.Same(c.a, c.b) != c.same || parts.Same(c.b, c.a) != c.same {
			t.Errorf("Same(%v, %v) is not %v", c.a, c.b, c.same)
		}
		if parts.Like(c.a, c.b) != c.like || parts.Like(c.b, c.a) != c.like {
			t.Errorf("Like(%v, %v) is not %v", c.a, c.b, c.like)
		}
	}
	for _, a := range few() {
		for _, b := range few() {
			if parts.Same(a, b) != same(a, b) || parts.Like(a, b) != like(a, b) {
				t.Errorf("Same or Like of %v and %v", a, b)
			}
		}
	}
}

// P1.1
func TestFinite(t *testing.T) {
	for _, re := range edges() {
		for _, im := range edges() {
			// Among floats, only infinities and NaN less themselves are not 0.
			want := re-re == 0 && im-im == 0
			if parts.Finite(complex(re, im)) != want {
				t.Errorf("Finite of %v, %v is not %v", re, im, want)
			}
		}
	}
}

// stepped is one float operation, rounded by itself: the conversion keeps the compiler from joining it with the next one.
func stepped(x, y float64, op byte) float64 {
	switch op {
	case '+':
		return float64(x + y)
	case '-':
		return float64(x - y)
	}
	return float64(x * y)
}

// P1.2
func TestAddSub(t *testing.T) {
	wantSame(t, "Add", parts.Add(complex(1, 2), complex(3, -5)), complex(4, -3))
	wantSame(t, "Sub", parts.Sub(complex(1, 2), complex(3, -5)), complex(-2, 7))
	wantSame(t, "Add", parts.Add(complex(minus, minus), complex(minus, 0)), complex(minus, 0))
	wantSame(t, "Sub", parts.Sub(complex(minus, 0), complex(0, 0)), complex(minus, 0))
	wantSame(t, "Add", parts.Add(complex(inf, great), complex(-inf, great)), complex(nan, inf))
	wantSame(t, "Add", parts.Add(complex(1, 1), complex(0x1p-53, 3*0x1p-53)), complex(1, 1+0x1p-51))
	for _, a := range few() {
		for _, b := range few() {
			wantSame(t, "Add", parts.Add(a, b), complex(stepped(real(a), real(b), '+'), stepped(imag(a), imag(b), '+')))
			wantSame(t, "Sub", parts.Sub(a, b), complex(stepped(real(a), real(b), '-'), stepped(imag(a), imag(b), '-')))
		}
	}
}

// mulBySteps is the product, each of its six operations rounded by itself.
func mulBySteps(a, b complex128) complex128 {
	pc := stepped(real(a), real(b), '*')
	qd := stepped(imag(a), imag(b), '*')
	pd := stepped(real(a), imag(b), '*')
	qc := stepped(imag(a), real(b), '*')
	return complex(stepped(pc, qd, '-'), stepped(pd, qc, '+'))
}

// P1.2, and example 1
func TestMul(t *testing.T) {
	for _, c := range []struct{ a, b, want complex128 }{
		{complex(1, 2), complex(3, 4), complex(-5, 10)},
		{complex(0, 1), complex(0, 1), complex(-1, 0)},
		{complex(inf, 0), complex(1, 0), complex(inf, nan)},
		{complex(minus, 0), complex(1, 0), complex(minus, 0)},
		{complex(inf, inf), complex(1, 1), complex(nan, inf)},
		{complex(inf, nan), complex(1, 0), complex(nan, nan)},
		{complex(great, 0), complex(2, 0), complex(inf, 0)},
		{complex(great, great), complex(great, great), complex(nan, inf)},
		{complex(least, 0), complex(0.5, 0), complex(0, 0)},
		{complex(3*least, 0), complex(0.5, 0), complex(2*least, 0)},
	} {
		wantSame(t, "Mul", parts.Mul(c.a, c.b), c.want)
	}
	for _, a := range few() {
		for _, b := range few() {
			wantSame(t, "Mul", parts.Mul(a, b), mulBySteps(a, b))
		}
	}
	l := drawn(2000, -40, 40)
	for i, a := range l {
		b := l[(i*7+1)%len(l)]
		wantSame(t, "Mul", parts.Mul(a, b), mulBySteps(a, b))
	}
}

// P1.2, R7: both products of a part are rounded, so a number times its conjugate has no imaginary part, and 1 + 2^-52 squared less itself none at all.
func TestMulJoinsNothing(t *testing.T) {
	for _, a := range drawn(500, -3, 3) {
		if im := imag(parts.Mul(a, parts.Conj(a))); im != 0 {
			t.Errorf("%v times its conjugate: im is %v", a, im)
		}
	}
	x := 1 + 0x1p-52
	wantSame(t, "Mul", parts.Mul(complex(x, x), complex(x, x)), complex(0, 2+0x1p-50))
	y := 1 + 0x1p-30
	square := 1 + 0x1p-29 // and 2^-60, which is rounded off
	wantSame(t, "Mul", parts.Mul(complex(y, 1), complex(y, square)), complex(0, float64(y*square)+y))
}

// P1.3, and example 2
func TestTurn(t *testing.T) {
	wantSame(t, "Turn", parts.Turn(complex(1, 2), 1), complex(-2, 1))
	wantSame(t, "Turn", parts.Turn(complex(1, 2), -1), complex(2, -1))
	wantSame(t, "Turn", parts.Turn(complex(1, 0), 1), complex(minus, 1))
	wantSame(t, "Turn", parts.Turn(complex(1, 0), -1), complex(0, -1))
	wantSame(t, "Turn", parts.Turn(complex(1, 0), 2), complex(-1, minus))
	wantSame(t, "Turn", parts.Turn(complex(minus, -inf), 3), complex(-inf, 0))
	wantSame(t, "Turn", parts.Turn(complex(nan, inf), 1), complex(-inf, nan))
	wantSame(t, "Neg", parts.Neg(complex(minus, inf)), complex(0, -inf))
	wantSame(t, "Conj", parts.Conj(complex(1, 0)), complex(1, minus))
	wantSame(t, "Conj", parts.Conj(complex(minus, minus)), complex(minus, 0))
	wantSame(t, "Conj", parts.Conj(complex(-inf, nan)), complex(-inf, nan))
	about := func(x float64) float64 { return math.Copysign(x, -math.Copysign(1, x)) }
	for _, z := range numbers() {
		re, im := real(z), imag(z)
		want := [4]complex128{z, complex(about(im), re), complex(about(re), about(im)), complex(im, about(re))}
		for q, w := range want {
			for _, quarters := range []int{q, q - 4, q + 4, q - 400, q + 4000, math.MinInt + q, math.MaxInt - 3 + q} {
				wantSame(t, "Turn", parts.Turn(z, quarters), w)
			}
		}
		wantSame(t, "Neg", parts.Neg(z), want[2])
		wantSame(t, "Conj", parts.Conj(z), complex(re, about(im)))
	}
}

// scaleExactly is a part times 2 to the power, exact first, then rounded once by math/big.
func scaleExactly(x float64, power int) float64 {
	if x == 0 || math.IsInf(x, 0) || math.IsNaN(x) {
		return x
	}
	// Powers past these tell 0 or an infinity at every part, and so do these.
	power = min(max(power, -5000), 5000)
	f := new(big.Float).SetFloat64(x)
	f.SetMantExp(f, power)
	got, _ := f.Float64()
	return got
}

// P1.4, and example 3
func TestScale(t *testing.T) {
	for _, c := range []struct {
		z     complex128
		power int
		want  complex128
	}{
		{complex(3, minus), -1, complex(1.5, minus)},
		{complex(least, 3*least), -1, complex(0, 2*least)},
		{complex(-least, -3*least), -1, complex(minus, -2*least)},
		{complex(5*least, 7*least), -1, complex(2*least, 4*least)},
		{complex(5*least, 7*least), -2, complex(least, 2*least)},
		{complex(1, -1), 1024, complex(inf, -inf)},
		{complex(least, -least), 2097, complex(0x1p1023, -0x1p1023)},
		{complex(least, -least), 2098, complex(inf, -inf)},
		{complex(great, -great), 1, complex(inf, -inf)},
		{complex(great, 0x1p1023), -2098, complex(least, 0)},
		{complex(great, -great), -2100, complex(0, minus)},
		{complex(1+0x1p-52, 1), -1075, complex(least, 0)},
		{complex(1.5, -1.5), -1075, complex(least, -least)},
		{complex(1, -1), math.MaxInt, complex(inf, -inf)},
		{complex(1, -1), math.MinInt, complex(0, minus)},
		{complex(great, -least), math.MaxInt, complex(inf, -inf)},
		{complex(great, -least), math.MinInt, complex(0, minus)},
		{complex(0, minus), math.MaxInt, complex(0, minus)},
		{complex(inf, nan), math.MinInt, complex(inf, nan)},
		{complex(-inf, other), -3000, complex(-inf, nan)},
	} {
		wantSame(t, "Scale", parts.Scale(c.z, c.power), c.want)
	}
}

// P1.4: at every edge, by powers all over; a part whose last bits fall off below the subnormal ones is rounded once, not twice.
func TestScaleRoundsOnce(t *testing.T) {
	powers := []int{math.MinInt, math.MinInt + 1, math.MinInt + 2000, -1 << 32, -5000, 5000, 1 << 32, math.MaxInt - 2000, math.MaxInt - 1, math.MaxInt}
	for p := -2250; p <= 2250; p++ {
		powers = append(powers, p)
	}
	l := append(edges(), 1+0x1p-51, 0x1.fffffffffffffp0, 0x1.8000000000001p0, 0x1.7ffffffffffffp0, -0x1.0000000000001p-1022)
	for _, z := range drawn(20, -1020, 1020) {
		l = append(l, real(z))
	}
	for _, x := range l {
		for _, p := range powers {
			want := scaleExactly(x, p)
			wantSame(t, "Scale", parts.Scale(complex(x, 1), p), complex(want, scaleExactly(1, p)))
			wantSame(t, "Scale", parts.Scale(complex(minus, x), p), complex(minus, want))
		}
	}
}

// P1.5, and example 4
func TestSizeNorm(t *testing.T) {
	for _, c := range []struct {
		z          complex128
		size, norm float64
	}{
		{complex(3, -4), 7, 25},
		{complex(-3, 4), 7, 25},
		{complex(minus, minus), 0, 0},
		{complex(minus, 0), 0, 0},
		{complex(nan, inf), nan, nan},
		{complex(-inf, 1), inf, inf},
		{complex(inf, -inf), inf, inf},
		{complex(other, 1), nan, nan},
		{complex(great, -great), inf, inf},
		{complex(-least, least), 2 * least, 0},
		{complex(1, -0x1p-53), 1, 1},
		{complex(0x1p512, 0), 0x1p512, inf},
	} {
		if got := parts.Size(c.z); !samePart(got, c.size) {
			t.Errorf("Size(%v) = %v, want %v", c.z, got, c.size)
		}
		if got := parts.Norm(c.z); !samePart(got, c.norm) {
			t.Errorf("Norm(%v) = %v, want %v", c.z, got, c.norm)
		}
	}
	for _, z := range append(numbers(), drawn(2000, -20, 20)...) {
		size := stepped(math.Abs(real(z)), math.Abs(imag(z)), '+')
		if got := parts.Size(z); !samePart(got, size) {
			t.Errorf("Size(%v) = %v, want %v", z, got, size)
		}
		norm := stepped(stepped(real(z), real(z), '*'), stepped(imag(z), imag(z), '*'), '+')
		if got := parts.Norm(z); !samePart(got, norm) {
			t.Errorf("Norm(%v) = %v, want %v", z, got, norm)
		}
	}
}

// P1.6
func TestSplit(t *testing.T) {
	for _, l := range [][]complex128{nil, {}, {complex(minus, nan)}, {complex(1, 2), complex(3, 4), complex(-inf, minus)}, numbers()} {
		kept := append([]complex128(nil), l...)
		re, im := parts.Split(l)
		if len(re) != len(l) || len(im) != len(l) {
			t.Fatalf("Split of %d: %d and %d", len(l), len(re), len(im))
		}
		for i := range l {
			wantSame(t, "Split", complex(re[i], im[i]), kept[i])
			wantSame(t, "what Split was handed", l[i], kept[i])
		}
	}
}

// P1.6, wrong inputs among them
func TestJoin(t *testing.T) {
	for _, c := range [][2][]float64{{{1, 2}, {1}}, {{1}, {1, 2}}, {nil, {0}}, {{0}, nil}, {{}, {nan, inf}}, {make([]float64, 1000), make([]float64, 999)}} {
		l, e := parts.Join(c[0], c[1])
		if e != api.ErrShape || len(l) != 0 {
			t.Errorf("Join of %d and %d: %v, %v", len(c[0]), len(c[1]), l, e)
		}
	}
	for _, c := range [][2][]float64{{nil, nil}, {{}, nil}, {nil, {}}, {{}, {}}} {
		if l, e := parts.Join(c[0], c[1]); e != api.OK || len(l) != 0 {
			t.Errorf("Join of nothing: %v, %v", l, e)
		}
	}
	re, im := []float64{1, minus, nan}, []float64{-2, inf, 0}
	l, e := parts.Join(re, im)
	if e != api.OK || len(l) != 3 {
		t.Fatalf("Join: %v, %v", l, e)
	}
	for i, z := range l {
		wantSame(t, "Join", z, complex(re[i], im[i]))
	}
}

// R3: what is handed in is neither changed nor kept, its spare room neither; what is handed out shares nothing.
func TestRowsShareNothing(t *testing.T) {
	room := []complex128{complex(1, 2), complex(3, 4), complex(5, 6)}
	re, im := parts.Split(room[:2])
	fill(re[:cap(re)], 7)
	for _, x := range im[:2] {
		if x == 7 {
			t.Error("both lists of Split share memory")
		}
	}
	fill(im[:cap(im)], 8)
	if room[0] != complex(1, 2) || room[1] != complex(3, 4) || room[2] != complex(5, 6) {
		t.Error("Split's lists share memory with what it was handed:", room)
	}

	a, b := []float64{1, 2, 3}, []float64{4, 5, 6}
	l, _ := parts.Join(a[:2], b[:2])
	m, _ := parts.Join(a[:2], b[:2])
	for i := range l[:cap(l)] {
		l[:cap(l)][i] = 9
	}
	if a[0] != 1 || a[1] != 2 || a[2] != 3 || b[0] != 4 || b[1] != 5 || b[2] != 6 {
		t.Error("Join's list shares memory with what it was handed:", a, b)
	}
	wantSame(t, "a second Join", m[0], complex(1, 4))
	a[1], b[1] = 0, 0
	wantSame(t, "what Join told, later", m[1], complex(2, 5))
}

func fill(l []float64, x float64) {
	for i := range l {
		l[i] = x
	}
}

// P1.7: round by quarters, and back by the other way, to the bit.
func TestTurnGoesRound(t *testing.T) {
	for _, z := range numbers() {
		for q := -5; q <= 5; q++ {
			wantSame(t, "there and back", parts.Turn(parts.Turn(z, q), -q), z)
			wantSame(t, "one more", parts.Turn(parts.Turn(z, q), 1), parts.Turn(z, q+1))
		}
		wantSame(t, "four", parts.Turn(parts.Turn(parts.Turn(parts.Turn(z, 1), 1), 1), 1), z)
		wantSame(t, "Conj of Conj", parts.Conj(parts.Conj(z)), z)
		wantSame(t, "Neg of Neg", parts.Neg(parts.Neg(z)), z)
	}
}

// P1.7: Mul's laws, but for the signs of noughts.
func TestMulLaws(t *testing.T) {
	l := append(few(), drawn(40, -30, 30)...)
	for _, a := range l {
		for _, b := range l {
			ab := parts.Mul(a, b)
			if !like(ab, parts.Mul(b, a)) {
				t.Errorf("%v and %v: the order shows", a, b)
			}
			if !like(parts.Conj(ab), parts.Mul(parts.Conj(a), parts.Conj(b))) {
				t.Errorf("%v and %v: not conjugate", a, b)
			}
			for q := range 4 {
				turned := parts.Turn(ab, q)
				if !like(turned, parts.Mul(parts.Turn(a, q), b)) || !like(turned, parts.Mul(a, parts.Turn(b, q))) {
					t.Errorf("%v and %v: do not turn by %d", a, b, q)
				}
			}
		}
	}
}

// P1.7: Scale there and back, where nothing becomes subnormal or infinite.
func TestScaleThereAndBack(t *testing.T) {
	for _, z := range drawn(300, -500, 500) {
		for p := -500; p <= 500; p += 25 {
			wantSame(t, "Scale", parts.Scale(parts.Scale(z, p), -p), z)
		}
	}
	wantSame(t, "Scale", parts.Scale(parts.Scale(complex(great, leastFull), -1), 1), complex(great, leastFull))
	wantSame(t, "Scale", parts.Scale(parts.Scale(complex(leastFull, minus), 2045), -2045), complex(leastFull, minus))
}

// P1.7: how far off Mul may be, held against exact numbers: the square of the fault, and that of its bound, which is 8 times 2^-106 (and some) of the product of both norms.
func TestMulIsNear(t *testing.T) {
	slack := new(big.Float).SetPrec(400).SetFloat64(2)
	slack.Sqrt(slack)
	slack.Mul(slack, big.NewFloat(0x1p-52))
	slack.Add(slack, big.NewFloat(0x1p-104))
	slack.Mul(slack, slack)
	for _, spread := range [][2]int{{-1, 1}, {-60, 60}, {-399, 399}} {
		l := drawn(1000, spread[0], spread[1])
		for i, a := range l {
			b := l[(i*13+5)%len(l)]
			if i%2 == 0 { // parts that nearly cancel
				b = complex(imag(a)*(1+0x1p-50), real(a))
			}
			bound := exact(0).Mul(exactNorm(a), exactNorm(b))
			if off := exactOff(a, b, parts.Mul(a, b)); off.Cmp(bound.Mul(bound, slack)) > 0 {
				t.Errorf("%v times %v: too far off", a, b)
			}
		}
	}
}

func exact(x float64) *big.Float {
	return new(big.Float).SetPrec(8000).SetFloat64(x)
}

func exactTimes(x, y float64) *big.Float {
	return exact(0).Mul(exact(x), exact(y))
}

func exactNorm(z complex128) *big.Float {
	return exact(0).Add(exactTimes(real(z), real(z)), exactTimes(imag(z), imag(z)))
}

// exactOff is the square of how far z lies from a times b.
func exactOff(a, b, z complex128) *big.Float {
	re := exact(0).Sub(exactTimes(real(a), real(b)), exactTimes(imag(a), imag(b)))
	im := exact(0).Add(exactTimes(real(a), imag(b)), exactTimes(imag(a), real(b)))
	re.Sub(re, exact(real(z)))
	im.Sub(im, exact(imag(z)))
	return exact(0).Add(re.Mul(re, re), im.Mul(im, im))
}

// P1.7: Join of Split is the list.
func TestJoinOfSplit(t *testing.T) {
	for _, l := range [][]complex128{nil, {complex(other, minus)}, numbers()} {
		back, e := parts.Join(parts.Split(l))
		if e != api.OK || len(back) != len(l) {
			t.Fatalf("%d numbers came back as %d, %v", len(l), len(back), e)
		}
		for i := range l {
			wantSame(t, "Join of Split", back[i], l[i])
		}
	}
}
