package edge_test

import (
	"math"
	"math/big"
	"math/rand"
	"testing"

	"rosette/api"
	"rosette/edge"
)

const (
	least     = 0x1p-1074 // the least float above 0
	leastFull = 0x1p-1022 // the least float that is not subnormal
	great     = math.MaxFloat64
	u         = 0x1p-52
)

var (
	minus = math.Copysign(0, -1)
	inf   = math.Inf(1)
	nan   = math.NaN()
)

// same holds bits against bits; any two NaN are the same.
func same(a, b float64) bool {
	return math.Float64bits(a) == math.Float64bits(b) || a != a && b != b
}

func isFinite(x float64) bool { return x-x == 0 }

// finites are finite floats at which rounding goes otherwise than in between, of both signs.
func finites() []float64 {
	l := []float64{
		0, least, 2 * least, 3 * least, 5 * least, leastFull - least, leastFull, leastFull + least, 3 * leastFull,
		0x1p-1000, 0x1.8p-600, 0x1p-600, 0x1p-538, 0x1p-537, 0x1.fffffffffffffp-537, 0x1p-512, 0x1p-60, 0x1p-53, 0x1p-52,
		0.1, 1.0 / 3, 0.5, 1 - 0x1p-53, 1, 1 + u, 1 + 3*u, 1.5, 2 - u, 2, 3, 7, 10, 1<<53 - 1, 1 << 53, 1<<53 + 2,
		0x1p511, 0x1.fffffffffffffp511, 0x1p512, 0x1p969, 0x1p970, 0x1.8p970, 0x1p971, 0x1p1022, 0x1p1023, great - 0x1p971, great,
	}
	for _, x := range l {
		l = append(l, math.Copysign(x, -1))
	}
	return l
}

// others are the floats that are not finite.
func others() []float64 {
	return []float64{inf, -inf, nan, math.Float64frombits(0xfff8000000000123)}
}

// drawn are finite floats of all bits, many of them subnormal or near each other, the same ones at each run.
func drawn(n int, seed int64) []float64 {
	r := rand.New(rand.NewSource(seed))
	var l []float64
	for len(l) < n {
		x := math.Float64frombits(r.Uint64())
		switch r.Intn(4) {
		case 0:
			x = math.Float64frombits(r.Uint64() &^ (0x7fe << 52))
		case 1:
			x = math.Ldexp(1+r.Float64(), r.Intn(60)-30)
		case 2:
			x = -math.Ldexp(float64(r.Intn(1<<20)), -600+r.Intn(1200))
		}
		if isFinite(x) {
			l = append(l, x)
		}
	}
	return l
}

// rat is a finite float as an exact number.
func rat(x float64) *big.Rat { return new(big.Rat).SetFloat64(x) }

// against holds a float, or an infinity, against what is exact, as an order tells it (the float's place among the reals: below 0, 0, above 0).
type against func(x float64) int

func againstRat(exact *big.Rat) against {
	return func(x float64) int {
		if math.IsInf(x, 0) {
			return int(math.Copysign(1, x))
		}
		return rat(x).Cmp(exact)
	}
}

// againstRoot asks the squares.
func againstRoot(a float64) against {
	return func(x float64) int {
		if math.IsInf(x, 0) || x < 0 {
			return int(math.Copysign(1, x))
		}
		return new(big.Rat).Mul(rat(x), rat(x)).Cmp(rat(a))
	}
}

// rounded tells whether x is what is exact (not 0, of that sign) rounded to that side: x is not on the wrong side of it, and the float one step back is.
func rounded(x float64, exact against, up, below bool) bool {
	if x != x || x == 0 && math.Signbit(x) != below {
		return false
	}
	if up {
		return exact(x) >= 0 && (math.IsInf(x, -1) || exact(math.Nextafter(x, -inf)) < 0)
	}
	return exact(x) <= 0 && (math.IsInf(x, 1) || exact(math.Nextafter(x, inf)) > 0)
}

// pairs are all pairs of finite floats at the edges, and drawn ones, some of them such that sums nearly cancel.
func pairs(t *testing.T) [][2]float64 {
	t.Helper()
	var l [][2]float64
	for _, a := range finites() {
		for _, b := range finites() {
			l = append(l, [2]float64{a, b})
		}
	}
	x, y := drawn(4000, 1), drawn(4000, 2)
	for i := range x {
		l = append(l, [2]float64{x[i], y[i]})
		if near := -x[i] * (1 + float64(i%7)*u); isFinite(near) {
			l = append(l, [2]float64{x[i], near})
		}
	}
	return l
}

// P2.1: sums and differences, rounded to either side.
func TestSums(t *testing.T) {
	for _, p := range pairs(t) {
		a, b := p[0], p[1]
		exact := new(big.Rat).Add(rat(a), rat(b))
		for _, up := range []bool{true, false} {
			s := edge.Add(a, b, up)
			if d := edge.Sub(a, -b, up); !same(s, d) {
				t.Fatal("sub", a, b, up, s, d)
			}
			if exact.Sign() == 0 {
				if want := noughtSum(a, b, up); !same(s, want) {
					t.Fatal("nought", a, b, up, s)
				}
				continue
			}
			if !rounded(s, againstRat(exact), up, exact.Sign() < 0) {
				t.Fatal("add", a, b, up, s)
			}
		}
	}
}

func noughtSum(a, b float64, up bool) float64 {
	if same(a, b) {
		return a
	}
	if up {
		return 0
	}
	return minus
}

// P2.1: products, rounded to either side.
func TestProducts(t *testing.T) {
	for _, p := range pairs(t) {
		a, b := p[0], p[1]
		exact := new(big.Rat).Mul(rat(a), rat(b))
		below := math.Signbit(a) != math.Signbit(b)
		for _, up := range []bool{true, false} {
			m := edge.Mul(a, b, up)
			if exact.Sign() == 0 {
				if m != 0 || math.Signbit(m) != below {
					t.Fatal("nought", a, b, up, m)
				}
				continue
			}
			if !rounded(m, againstRat(exact), up, below) {
				t.Fatal("mul", a, b, up, m)
			}
		}
	}
}

// P2.1: quotients, rounded to either side; by a nought what Go's operation tells.
func TestQuotients(t *testing.T) {
	for _, p := range pairs(t) {
		a, b := p[0], p[1]
		below := math.Signbit(a) != math.Signbit(b)
		for _, up := range []bool{true, false} {
			q := edge.Div(a, b, up)
			if b == 0 {
				if !same(q, a/b) {
					t.Fatal("by nought", a, b, up, q)
				}
				continue
			}
			exact := new(big.Rat).Quo(rat(a), rat(b))
			if exact.Sign() == 0 {
				if q != 0 || math.Signbit(q) != below {
					t.Fatal("nought", a, b, up, q)
				}
				continue
			}
			if !rounded(q, againstRat(exact), up, below) {
				t.Fatal("div", a, b, up, q)
			}
		}
	}
}

// P2.1: roots, rounded to either side; a nought's is that nought, and those of numbers below 0 are NaN.
func TestRoots(t *testing.T) {
	l := append(finites(), drawn(4000, 3)...)
	for _, x := range drawn(2000, 4) {
		if isFinite(x * x) {
			l = append(l, x*x, math.Nextafter(x*x, inf), math.Nextafter(x*x, 0))
		}
	}
	for _, a := range l {
		for _, up := range []bool{true, false} {
			r := edge.Sqrt(a, up)
			switch {
			case a < 0:
				if r == r {
					t.Fatal("below 0", a, up, r)
				}
			case a == 0:
				if !same(r, a) {
					t.Fatal("nought", a, up, r)
				}
			case isFinite(a):
				if !rounded(r, againstRoot(a), up, false) {
					t.Fatal("sqrt", a, up, r)
				}
			}
		}
	}
}

// P2.1: exact answers are the same on both sides.
func TestExact(t *testing.T) {
	for _, up := range []bool{true, false} {
		for i, c := range []struct{ got, want float64 }{
			{edge.Add(1, 2, up), 3},
			{edge.Sub(1, 2, up), -1},
			{edge.Sub(leastFull, least, up), leastFull - least},
			{edge.Add(great, -great+0x1p971, up), 0x1p971},
			{edge.Mul(3, -5, up), -15},
			{edge.Mul(6*least, 0.5, up), 3 * least},
			{edge.Mul(0x1p-537, 0x1p-537, up), least},
			{edge.Mul(0x1p1000, 0x1p23, up), 0x1p1023},
			{edge.Div(1, 8, up), 0.125},
			{edge.Div(-21, 7, up), -3},
			{edge.Div(least, 0x1p-1022, up), u},
			{edge.Div(leastFull, -0x1p52, up), -least},
			{edge.Div(great, great, up), 1},
			{edge.Sqrt(9, up), 3},
			{edge.Sqrt(least, up), 0x1p-537},
			{edge.Sqrt(0x1p1022, up), 0x1p511},
			{edge.Sqrt(0x1.8p0*0x1.8p0*least*16, up), 0x1.8p-535},
		} {
			if !same(c.got, c.want) {
				t.Error(i, up, c.got, c.want)
			}
		}
	}
}

// P2.1: of operands that are not plain what Go's operation tells, whichever side is wanted.
func TestOthers(t *testing.T) {
	all := append(finites(), others()...)
	for _, a := range others() {
		for _, up := range []bool{true, false} {
			if r := edge.Sqrt(a, up); !same(r, math.Sqrt(a)) {
				t.Error("sqrt", a, up, r)
			}
			for _, b := range all {
				for i, c := range []struct{ got, want float64 }{
					{edge.Add(a, b, up), a + b}, {edge.Add(b, a, up), b + a},
					{edge.Sub(a, b, up), a - b}, {edge.Sub(b, a, up), b - a},
					{edge.Mul(a, b, up), a * b}, {edge.Mul(b, a, up), b * a},
					{edge.Div(a, b, up), a / b}, {edge.Div(b, a, up), b / a},
				} {
					if !same(c.got, c.want) {
						t.Error(i, a, b, up, c)
					}
				}
			}
		}
	}
}

// P2.1: the noughts and the ends that the chapter names, by themselves.
func TestNamed(t *testing.T) {
	for i, c := range []struct{ up, wantUp, down, wantDown float64 }{
		{edge.Add(1, 0x1p-60, true), 1.0 + u, edge.Add(1, 0x1p-60, false), 1},
		{edge.Sub(1, 1, true), 0, edge.Sub(1, 1, false), minus},
		{edge.Add(0, 0, true), 0, edge.Add(0, 0, false), 0},
		{edge.Add(minus, minus, true), minus, edge.Add(minus, minus, false), minus},
		{edge.Add(minus, 0, true), 0, edge.Add(minus, 0, false), minus},
		{edge.Sub(0, 0, true), 0, edge.Sub(0, 0, false), minus},
		{edge.Sub(minus, 0, true), minus, edge.Sub(minus, 0, false), minus},
		{edge.Sub(0, minus, true), 0, edge.Sub(0, minus, false), 0},
		{edge.Mul(0x1p-600, 0x1p-600, true), least, edge.Mul(0x1p-600, 0x1p-600, false), 0},
		{edge.Mul(-0x1p-600, 0x1p-600, true), minus, edge.Mul(-0x1p-600, 0x1p-600, false), -least},
		{edge.Mul(0, -3, true), minus, edge.Mul(0, -3, false), minus},
		{edge.Mul(minus, -3, true), 0, edge.Mul(minus, -3, false), 0},
		{edge.Mul(1.5*0x1p-537, 0x1p-537, true), 2 * least, edge.Mul(1.5*0x1p-537, 0x1p-537, false), least},
		{edge.Mul(-great, great, true), -great, edge.Mul(-great, great, false), -inf},
		{edge.Div(least, 3, true), least, edge.Div(least, 3, false), 0},
		{edge.Div(-least, 3, true), minus, edge.Div(-least, 3, false), -least},
		{edge.Div(2*least, 3, true), least, edge.Div(2*least, 3, false), 0},
		{edge.Div(-2*least, 3, true), minus, edge.Div(-2*least, 3, false), -least},
		{edge.Div(great, -least, true), -great, edge.Div(great, -least, false), -inf},
		{edge.Div(minus, 3, true), minus, edge.Div(minus, 3, false), minus},
		{edge.Div(1, 0, true), inf, edge.Div(1, 0, false), inf},
		{edge.Div(1, minus, true), -inf, edge.Div(1, minus, false), -inf},
		{edge.Div(0, 0, true), nan, edge.Div(0, 0, false), nan},
		{edge.Add(great, 1, true), inf, edge.Add(great, 1, false), great},
		{edge.Add(great, great, true), inf, edge.Add(great, great, false), great},
		{edge.Sub(-great, least, true), -great, edge.Sub(-great, least, false), -inf},
		{edge.Sub(great, least, true), great, edge.Sub(great, least, false), great - 0x1p971},
		{edge.Sqrt(minus, true), minus, edge.Sqrt(minus, false), minus},
		{edge.Sqrt(-1, true), nan, edge.Sqrt(-least, false), nan},
		{edge.Sqrt(inf, true), inf, edge.Sqrt(inf, false), inf},
		{edge.Sqrt(2, true), math.Sqrt2, edge.Sqrt(2, false), math.Nextafter(math.Sqrt2, 0)},
		{edge.Sqrt(great, true), 0x1p512, edge.Sqrt(great, false), 0x1.fffffffffffffp511},
	} {
		if !same(c.up, c.wantUp) || !same(c.down, c.wantDown) {
			t.Error(i, c)
		}
	}
	if d := edge.Div(1, 3, false); rat(d).Cmp(big.NewRat(1, 3)) >= 0 || edge.Div(1, 3, true) != math.Nextafter(d, 1) {
		t.Error("a third", d)
	}
}

// P2.2: sums of lists, in order, each step rounded.
func TestSum(t *testing.T) {
	for i, c := range []struct {
		l        []float64
		up, down float64
	}{
		{nil, 0, 0},
		{[]float64{}, 0, 0},
		{[]float64{minus}, 0, minus},
		{[]float64{minus, minus}, 0, minus},
		{[]float64{1, 0x1p-53, 0x1p-53}, 1 + 2*u, 1},
		{[]float64{0x1p-53, 0x1p-53, 1}, 1 + u, 1 + u},
		{[]float64{1, -1}, 0, minus},
		{[]float64{great, 1, -great}, inf, minus},
		{[]float64{-great, -1, great}, 0, -inf},
		{[]float64{inf, 1}, inf, inf},
		{[]float64{inf, -inf}, nan, nan},
		{[]float64{1, nan, 2}, nan, nan},
	} {
		up, down := edge.Sum(c.l, true), edge.Sum(c.l, false)
		if !same(up, c.up) || !same(down, c.down) {
			t.Error(i, c.l, up, down)
		}
	}
	l := drawn(500, 5)
	for n := range l {
		for _, up := range []bool{true, false} {
			s := 0.0
			for _, x := range l[n/2 : n] {
				s = edge.Add(s, x, up)
			}
			if got := edge.Sum(l[n/2:n], up); !same(got, s) {
				t.Fatal(n, up, got, s)
			}
		}
	}
}

// R3: a list that is handed in stays as it was, its spare room too.
func TestSumLeavesList(t *testing.T) {
	all := []float64{1, 0x1p-60, minus, 7, 8}
	edge.Sum(all[:3:5], true)
	edge.Sum(all[:3:5], false)
	for i, want := range []float64{1, 0x1p-60, minus, 7, 8} {
		if !same(all[i], want) {
			t.Error(i, all[i])
		}
	}
}

// P2.3: the floats next to one another.
func TestNext(t *testing.T) {
	for i, c := range []struct{ x, up, down float64 }{
		{1, 1 + u, 1 - u/2},
		{-1, -1 + u/2, -1 - u},
		{0, least, -least},
		{minus, least, -least},
		{least, 2 * least, 0},
		{-least, minus, -2 * least},
		{leastFull, leastFull + least, leastFull - least},
		{leastFull - least, leastFull, leastFull - 2*least},
		{2, 2 + 2*u, 2 - u},
		{great, inf, great - 0x1p971},
		{-great, -great + 0x1p971, -inf},
		{inf, inf, great},
		{-inf, -great, -inf},
		{nan, nan, nan},
		{math.Float64frombits(0x7ff0000000000001), nan, nan},
		{math.Float64frombits(0xffffffffffffffff), nan, nan},
	} {
		if up, down := edge.Next(c.x, true), edge.Next(c.x, false); !same(up, c.up) || !same(down, c.down) {
			t.Error(i, c, up, down)
		}
	}
	for _, x := range append(finites(), drawn(4000, 6)...) {
		if x == 0 {
			continue
		}
		if up, down := edge.Next(x, true), edge.Next(x, false); up != math.Nextafter(x, inf) || down != math.Nextafter(x, -inf) {
			t.Fatal(x, up, down)
		}
	}
}

// P2.4: whole numbers among floats.
func TestWhole(t *testing.T) {
	for i, c := range []struct {
		x  float64
		n  int64
		ok bool
	}{
		{0, 0, true}, {minus, 0, true}, {1, 1, true}, {-7, -7, true}, {1<<53 - 1, 1<<53 - 1, true},
		{1 << 53, 1 << 53, true}, {-1 << 53, -1 << 53, true}, {1<<53 + 2, 0, false}, {-1<<53 - 2, 0, false},
		{1 << 62, 0, false}, {0x1p63, 0, false}, {-0x1p63, 0, false}, {0x1p64, 0, false}, {great, 0, false}, {-great, 0, false},
		{0.5, 0, false}, {-0.5, 0, false}, {least, 0, false}, {-least, 0, false}, {1 + u, 0, false}, {1 - u/2, 0, false}, {1<<52 - 0.5, 0, false},
		{inf, 0, false}, {-inf, 0, false}, {nan, 0, false},
	} {
		if n, ok := edge.Whole(c.x); n != c.n || ok != c.ok {
			t.Error(i, c, n, ok)
		}
	}
}

// P2.4: the nearest whole number and how far off it is; what is refused.
func TestNearest(t *testing.T) {
	for i, c := range []struct {
		x   float64
		n   int64
		far float64
		e   api.Errno
	}{
		{0, 0, 0, api.OK}, {minus, 0, 0, api.OK}, {5, 5, 0, api.OK}, {-5, -5, 0, api.OK},
		{0.5, 0, 0.5, api.OK}, {-0.5, 0, 0.5, api.OK}, {1.5, 2, 0.5, api.OK}, {-1.5, -2, 0.5, api.OK},
		{2.5, 2, 0.5, api.OK}, {3.5, 4, 0.5, api.OK}, {-2.5, -2, 0.5, api.OK}, {-3.5, -4, 0.5, api.OK},
		{0.25, 0, 0.25, api.OK}, {-0.25, 0, 0.25, api.OK}, {0.75, 1, 0.25, api.OK}, {-0.75, -1, 0.25, api.OK},
		{least, 0, least, api.OK}, {-least, 0, least, api.OK},
		{0.5 - 0x1p-54, 0, 0.5 - 0x1p-54, api.OK}, {0.5 + 0x1p-53, 1, 0.5 - 0x1p-53, api.OK},
		{1 - u/2, 1, u / 2, api.OK}, {1 + u, 1, u, api.OK},
		{1<<52 - 0.5, 1 << 52, 0.5, api.OK}, {-1<<52 + 0.5, -1 << 52, 0.5, api.OK}, {1<<52 - 1.5, 1<<52 - 2, 0.5, api.OK},
		{1<<53 - 1, 1<<53 - 1, 0, api.OK}, {1 << 53, 1 << 53, 0, api.OK}, {-1 << 53, -1 << 53, 0, api.OK},
		{1<<53 + 2, 0, 0, api.ErrOver}, {-1<<53 - 2, 0, 0, api.ErrOver}, {0x1p63, 0, 0, api.ErrOver}, {great, 0, 0, api.ErrOver}, {-great, 0, 0, api.ErrOver},
		{inf, 0, 0, api.ErrNumber}, {-inf, 0, 0, api.ErrNumber}, {nan, 0, 0, api.ErrNumber},
	} {
		if n, far, e := edge.Nearest(c.x); n != c.n || !same(far, c.far) || e != c.e {
			t.Error(i, c, n, far, e)
		}
	}
	r := rand.New(rand.NewSource(7))
	for range 4000 {
		x := math.Ldexp(r.Float64()-0.5, r.Intn(55))
		n, far, e := edge.Nearest(x)
		exact := new(big.Rat).Sub(rat(x), new(big.Rat).SetInt64(n))
		if e != api.OK || exact.Abs(exact).Cmp(rat(far)) != 0 || far > 0.5 || far == 0.5 && n&1 != 0 {
			t.Fatal(x, n, far, e)
		}
	}
}

type operation struct {
	name string
	do   func(a, b float64, up bool) float64
	goes func(a, b float64) float64
}

func operations() []operation {
	return []operation{
		{"add", edge.Add, func(a, b float64) float64 { return a + b }},
		{"sub", edge.Sub, func(a, b float64) float64 { return a - b }},
		{"mul", edge.Mul, func(a, b float64) float64 { return a * b }},
		{"div", edge.Div, func(a, b float64) float64 { return a / b }},
		{"sqrt", func(a, _ float64, up bool) float64 { return edge.Sqrt(a, up) }, func(a, _ float64) float64 { return math.Sqrt(a) }},
	}
}

// P2.5: down is not above up; both are alike, or next to each other; Go's own operation tells one of both.
func TestSides(t *testing.T) {
	for _, p := range pairs(t) {
		for _, o := range operations() {
			up, down, mid := o.do(p[0], p[1], true), o.do(p[0], p[1], false), o.goes(p[0], p[1])
			if mid != mid {
				if up == up || down == down {
					t.Fatal(o.name, p, up, down)
				}
				continue
			}
			if down > up || up != down && up != edge.Next(down, true) || mid != up && mid != down {
				t.Fatal(o.name, p, up, down, mid)
			}
		}
	}
}

// P2.5: with all signs turned down is up, its sign turned.
func TestSignsTurned(t *testing.T) {
	for _, p := range pairs(t) {
		a, b := p[0], p[1]
		for i, c := range []struct{ down, up float64 }{
			{edge.Add(-a, -b, false), edge.Add(a, b, true)},
			{edge.Sub(-a, -b, false), edge.Sub(a, b, true)},
			{edge.Mul(-a, b, false), edge.Mul(a, b, true)},
			{edge.Div(-a, b, false), edge.Div(a, b, true)},
			{edge.Next(-a, false), edge.Next(a, true)},
		} {
			if !same(c.down, -c.up) {
				t.Fatal(i, a, b, c)
			}
		}
	}
}

// P2.5: what is not below another one stays so through sums, and through products with what is not below 0.
func TestOrder(t *testing.T) {
	l := append(finites(), drawn(40, 8)...)
	for _, a := range l {
		for _, b := range l {
			if a > b {
				continue
			}
			for _, c := range l {
				for _, up := range []bool{true, false} {
					if edge.Add(a, c, up) > edge.Add(b, c, up) || c >= 0 && edge.Mul(a, c, up) > edge.Mul(b, c, up) {
						t.Fatal(a, b, c, up)
					}
				}
			}
		}
	}
}

// P2.5: Next there and Next back is x, noughts aside, and but at an infinity that stays.
func TestThereAndBack(t *testing.T) {
	for _, x := range append(append(finites(), drawn(4000, 9)...), inf, -inf) {
		for _, up := range []bool{true, false} {
			next := edge.Next(x, up)
			if x == 0 || same(next, x) && math.IsInf(x, 0) {
				continue
			}
			if back := edge.Next(next, !up); !same(back, x) {
				t.Fatal(x, up, next, back)
			}
		}
	}
}

// P2.5: Nearest tells at most 1/2; Whole of what it tells, as a float, is that.
func TestNearestIsWhole(t *testing.T) {
	for _, x := range append(finites(), drawn(4000, 10)...) {
		n, far, e := edge.Nearest(x)
		if e != api.OK {
			continue
		}
		if w, ok := edge.Whole(float64(n)); !ok || w != n || far > 0.5 || math.Signbit(far) {
			t.Fatal(x, n, far)
		}
	}
}
