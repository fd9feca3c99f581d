package truth_test

import (
	"math"
	"math/big"
	"math/rand"
	"slices"
	"testing"

	"rosette/api"
	"rosette/dyad"
	"rosette/truth"
)

// long has so many limbs, all bits of them set.
func long(limbs int) []uint64 { return slices.Repeat([]uint64{math.MaxUint64}, limbs) }

// point is the gap that has the one number d.
func point(d api.Dyad) api.Gap { return api.Gap{Lo: d, Hi: d} }

// ofFloat is the dyad of a finite float.
func ofFloat(t *testing.T, x float64) api.Dyad {
	t.Helper()
	d, e := dyad.Of(x)
	if e != api.OK {
		t.Fatal(x, e)
	}
	return d
}

// P8.2, P8.3: what the chapter's examples say; parts on an end, just outside of one, and far outside.
func TestHoldsAndFar(t *testing.T) {
	eighth := api.Box{Re: gap(22, 23, -5), Im: gap(22, 23, -5)}
	one := api.Box{Re: point(of(1, 0)), Im: point(of(-1, 0))}
	fine := api.Box{Re: point(of(1, -1075)), Im: gap(-1, 1, -1080)}
	for i, c := range []struct {
		b     api.Box
		z     complex128
		holds bool
		far   api.Dyad
	}{
		{eighth, complex(0.70703125, 0.6875), true, of(0, 0)}, {eighth, complex(0.5, 0.7), false, of(3, -4)}, {eighth, complex(0.7, 0.5), false, of(3, -4)}, {eighth, complex(0.7, 1), false, of(9, -5)},
		{eighth, complex(0.6875, 0.71875), true, of(0, 0)}, {eighth, complex(0.71875, 0.6875), true, of(0, 0)}, {eighth, complex(math.Nextafter(0.6875, 0), 0.7), false, of(1, -53)}, {eighth, complex(0.7, math.Nextafter(0.6875, 0)), false, of(1, -53)}, {eighth, complex(math.Nextafter(0.71875, 1), 0.7), false, of(1, -53)}, {eighth, complex(0.7, math.Nextafter(0.71875, 1)), false, of(1, -53)},
		// The greater one counts, whichever part and side it lies on.
		{eighth, complex(0.5, 0.25), false, of(7, -4)}, {eighth, complex(0.25, 0.5), false, of(7, -4)}, {eighth, complex(0.5, 2), false, of(41, -5)}, {eighth, complex(2, 0.5), false, of(41, -5)}, {eighth, complex(-4, 1), false, of(75, -4)}, {eighth, complex(0.5, 0.5), false, of(3, -4)},
		{api.Box{Re: gap(1, 2, 0)}, complex(1.5, minus), true, of(0, 0)}, {api.Box{Re: gap(1, 2, 0)}, complex(1, 0), true, of(0, 0)}, {api.Box{Re: gap(1, 2, 0)}, complex(2, 0), true, of(0, 0)}, {api.Box{Re: gap(1, 2, 0)}, complex(2, least), false, of(1, -1074)}, {api.Box{Re: gap(1, 2, 0)}, complex(2, -least), false, of(1, -1074)},
		{api.Box{}, 0, true, of(0, 0)}, {api.Box{}, complex(minus, minus), true, of(0, 0)}, {api.Box{}, complex(least, minus), false, of(1, -1074)}, {api.Box{}, complex(minus, -least), false, of(1, -1074)}, {api.Box{}, complex(-great, great), false, ofFloat(t, great)},
		{one, complex(1, -1), true, of(0, 0)}, {one, complex(1, 1), false, of(2, 0)}, {one, complex(-1, -1), false, of(2, 0)}, {one, complex(math.Nextafter(1, 2), -1), false, of(1, -52)}, {one, complex(math.Nextafter(1, 0), -1), false, of(1, -53)}, {one, complex(1, math.Nextafter(-1, 0)), false, of(1, -53)}, {one, complex(1, math.Nextafter(-1, -2)), false, of(1, -52)},
		// Ends that no float is.
		{fine, 0, false, of(1, -1075)}, {fine, complex(least, minus), false, of(1, -1075)}, {fine, complex(0, least), false, of(63, -1080)}, {fine, complex(least, -least), false, of(63, -1080)},
		{api.Box{Re: gap(-1, 1, api.MaxExp), Im: gap(-1, 1, 1024)}, complex(great, -great), true, of(0, 0)}, {api.Box{Re: gap(-1, 0, api.MaxExp)}, 1, false, of(1, 0)}, {api.Box{Re: gap(0, 1, api.MaxExp)}, -1, false, of(1, 0)},
		{api.Box{Re: gap(1, 1, api.MaxExp)}, 0, false, of(1, api.MaxExp)}, {api.Box{Im: gap(-1, -1, api.MaxExp)}, complex(-3, minus), false, of(1, api.MaxExp)}, {api.Box{Re: gap(1, 1, -api.MaxExp)}, 0, false, of(1, -api.MaxExp)}, {api.Box{Re: gap(1, 1, -api.MaxExp), Im: gap(1, 1, -api.MaxExp)}, 0, false, of(1, -api.MaxExp)},
	} {
		if ok := truth.Holds(c.b, c.z); ok != c.holds {
			t.Errorf("case %d, %v: Holds is %v", i, c.z, ok)
		}
		if d, e := truth.Far(c.b, c.z); e != api.OK || !same(d, c.far) {
			t.Errorf("case %d, %v: Far is %v, %v", i, c.z, d, e)
		}
	}
}

// P8.3: what a part is outside by has no right dyad: Far is refused, whichever part it is, though the other one's is less or more.
func TestFarTooLong(t *testing.T) {
	top := api.Dyad{Mag: long(api.MaxLimbs)}
	below := api.Dyad{Neg: true, Mag: long(api.MaxLimbs)}
	low := of(1, -api.MaxExp)
	for i, c := range []struct {
		g    api.Gap
		x    float64
		e    api.Errno
		want api.Dyad
	}{
		{point(of(1, api.MaxExp)), 1, api.ErrLong, api.Dyad{}}, {point(of(-1, api.MaxExp)), 1, api.ErrLong, api.Dyad{}}, {gap(1, 3, api.MaxExp), least, api.ErrLong, api.Dyad{}}, {point(of(1, api.MaxExp)), great, api.ErrLong, api.Dyad{}}, {point(of(1, api.MaxExp)), minus, api.OK, of(1, api.MaxExp)},
		{point(low), 1, api.ErrLong, api.Dyad{}}, {point(low), -1, api.ErrLong, api.Dyad{}}, {api.Gap{Lo: of(-1, 0), Hi: low}, 1, api.ErrLong, api.Dyad{}}, {api.Gap{Lo: low, Hi: of(1, 0)}, -1, api.ErrLong, api.Dyad{}}, {api.Gap{Lo: of(-1, 0), Hi: low}, -2, api.OK, of(1, 0)},
		// All limbs are full: one more has a right dyad again, two more has none.
		{point(top), -1, api.OK, of(1, 64*api.MaxLimbs)}, {point(top), -2, api.ErrLong, api.Dyad{}}, {point(top), 0.5, api.ErrLong, api.Dyad{}}, {point(below), 1, api.OK, of(1, 64*api.MaxLimbs)}, {point(below), 2, api.ErrLong, api.Dyad{}}, {point(below), 0, api.OK, top}, {api.Gap{Lo: below, Hi: top}, 0.5, api.OK, api.Dyad{}},
	} {
		for _, other := range []api.Gap{{}, point(of(1, 0)), point(of(1, api.MaxExp))} {
			if c.e == api.OK && len(other.Lo.Mag) > 0 {
				continue
			}
			for _, far := range []func() (api.Dyad, api.Errno){
				func() (api.Dyad, api.Errno) { return truth.Far(api.Box{Re: c.g, Im: other}, complex(c.x, 0)) },
				func() (api.Dyad, api.Errno) { return truth.Far(api.Box{Re: other, Im: c.g}, complex(0, c.x)) },
			} {
				if d, e := far(); e != c.e || !same(d, c.want) {
					t.Errorf("case %d: %v limbs, %v", i, len(d.Mag), e)
				}
			}
		}
		if truth.Holds(api.Box{Re: c.g}, complex(c.x, 0)) != (c.e == api.OK && len(c.want.Mag) == 0) {
			t.Errorf("case %d: Holds is another", i)
		}
	}
}

// wrongDyads are dyads that are not right, in all ways.
func wrongDyads() []api.Dyad {
	return []api.Dyad{
		{Neg: true}, {Exp: 1}, {Exp: -1}, {Neg: true, Exp: math.MinInt}, {Exp: math.MaxInt},
		{Mag: []uint64{0}}, {Mag: []uint64{2}}, {Mag: []uint64{0, 1}}, {Mag: []uint64{1, 0}}, {Neg: true, Mag: []uint64{3, 0}}, {Mag: []uint64{0, 0}},
		{Mag: []uint64{1}, Exp: api.MaxExp + 1}, {Mag: []uint64{1}, Exp: -api.MaxExp - 1}, {Mag: []uint64{1}, Exp: math.MaxInt}, {Neg: true, Mag: []uint64{1}, Exp: math.MinInt},
		{Mag: long(api.MaxLimbs + 1)}, {Neg: true, Mag: long(api.MaxLimbs + 1)}, {Mag: append([]uint64{2}, long(api.MaxLimbs-1)...)},
	}
}

// wrongGaps are gaps that are not right: a wrong dyad at either end or at both, or ends that are changed about.
func wrongGaps() []api.Gap {
	l := []api.Gap{gap(2, 1, 0), gap(0, -1, 0), gap(1, 0, -1074), gap(1, -1, api.MaxExp), gap(1, 0, -api.MaxExp), {Lo: of(1, 0), Hi: of(1, -api.MaxExp)}, {Lo: of(-1, -1), Hi: of(-1, 0)}, {Lo: api.Dyad{Mag: long(api.MaxLimbs)}, Hi: of(1, 0)}}
	for _, d := range wrongDyads() {
		l = append(l, api.Gap{Lo: d}, api.Gap{Hi: d}, point(d), api.Gap{Lo: of(-1, api.MaxExp), Hi: d}, api.Gap{Lo: d, Hi: of(1, api.MaxExp)})
	}
	return l
}

// P8.2, P8.3: of a box that is not right Holds is false, and Far ErrArg, whatever z is; ErrArg is ahead of the other errors.
func TestWrongBoxes(t *testing.T) {
	huge := point(of(1, api.MaxExp))
	for i, g := range wrongGaps() {
		for _, b := range []api.Box{{Re: g}, {Im: g}, {Re: g, Im: g}, {Re: g, Im: huge}, {Re: huge, Im: g}} {
			for _, z := range []complex128{0, 1, complex(1.5, -1.5), complex(nan, 0), complex(0, inf), complex(great, least)} {
				if truth.Holds(b, z) {
					t.Errorf("gap %d: Holds of %v", i, z)
				}
				if d, e := truth.Far(b, z); e != api.ErrArg || !same(d, api.Dyad{}) {
					t.Errorf("gap %d: Far of %v: %v, %v", i, z, d, e)
				}
			}
		}
	}
}

// P8.2, P8.3: of what is not finite Holds is false, and Far ErrNumber, ahead of ErrLong.
func TestNotFinite(t *testing.T) {
	for _, g := range []api.Gap{{}, gap(-1, 1, api.MaxExp), point(of(1, api.MaxExp)), gap(1, 2, 0)} {
		for _, x := range []float64{nan, inf, -inf} {
			for _, z := range []complex128{complex(x, 0), complex(0, x), complex(x, x), complex(x, 1.5), complex(1.5, x)} {
				if b := (api.Box{Re: g, Im: g}); truth.Holds(b, z) {
					t.Errorf("Holds of %v", z)
				} else if d, e := truth.Far(b, z); e != api.ErrNumber || !same(d, api.Dyad{}) {
					t.Errorf("Far of %v: %v, %v", z, d, e)
				}
			}
		}
	}
}

// outside is how far x lies outside of the gap, counted in 2^last.
func outside(t *testing.T, g api.Gap, x float64, last int) *big.Int {
	t.Helper()
	lo, hi := countOf(t, g.Lo, last), countOf(t, g.Hi, last)
	n := counted(x)
	n.Lsh(n, uint(floatLast-last))
	if lo.Sub(lo, n).Sign() > 0 {
		return lo
	}
	if n.Sub(n, hi).Sign() > 0 {
		return n
	}
	return new(big.Int)
}

// someEnd is a dyad about x: it, or a little to either side, or apart by some power of two.
func someEnd(t *testing.T, r *rand.Rand, x float64) api.Dyad {
	t.Helper()
	d, e := dyad.Add(ofFloat(t, x), of(int64(r.Intn(3)-1), -r.Intn(1200)))
	if e != api.OK {
		t.Fatal(e)
	}
	return d
}

// someGap is a right gap about x.
func someGap(t *testing.T, r *rand.Rand, x float64) api.Gap {
	t.Helper()
	g := api.Gap{Lo: someEnd(t, r, x), Hi: someEnd(t, r, x)}
	if side, _ := dyad.Cmp(g.Lo, g.Hi); side > 0 {
		g.Lo, g.Hi = g.Hi, g.Lo
	}
	return g
}

// P8.2, P8.3, P8.4: Far is the greater of what the library reckons for both parts, and is 0 just if Holds.
func TestFarIsZeroJustIfHolds(t *testing.T) {
	const last = -1200
	r := rand.New(rand.NewSource(83))
	held := 0
	for range 5000 {
		x := mixed(r, 1, -1073, 1024-1)
		if r.Intn(2) == 0 {
			x = mixed(r, 1, -2, 2)
		}
		z := x[0]
		b := api.Box{Re: someGap(t, r, real(z)), Im: someGap(t, r, imag(z))}
		want := outside(t, b.Re, real(z), last)
		if im := outside(t, b.Im, imag(z), last); im.Cmp(want) > 0 {
			want = im
		}
		d, e := truth.Far(b, z)
		if e != api.OK || countOf(t, d, last).Cmp(want) != 0 {
			t.Fatalf("Far of %v and %v: %v, %v", b, z, d, e)
		}
		if truth.Holds(b, z) != (want.Sign() == 0) {
			t.Fatalf("Holds of %v and %v is wrong", b, z)
		}
		if want.Sign() == 0 {
			held++
		}
	}
	if held < 500 || held > 4500 {
		t.Errorf("%d of 5000 lie within: too much of one kind", held)
	}
}

// R3: boxes are only read, the spare room of their limbs too; what Far tells is new memory.
func TestBoxMemory(t *testing.T) {
	spare := func(d api.Dyad) api.Dyad {
		d.Mag = append(slices.Clone(d.Mag), 5, 6, 7)[:len(d.Mag)]
		return d
	}
	full := func(b api.Box) (l []uint64) {
		for _, d := range ends(b) {
			l = append(l, d.Mag[:cap(d.Mag)]...)
		}
		return l
	}
	b := api.Box{Re: api.Gap{Lo: spare(of(3, -4)), Hi: spare(of(7, -4))}, Im: api.Gap{Lo: spare(of(-7, 70)), Hi: spare(of(-5, 70))}}
	keep := full(b)
	for _, z := range []complex128{0, complex(0.25, minus), complex(0.2, -0x1p72), complex(0.1, -0x1.8p72), complex(1, -0x1.8p72), complex(0.3, 1), complex(nan, 0)} {
		truth.Holds(b, z)
		d, e := truth.Far(b, z)
		other, _ := truth.Far(b, z)
		want := slices.Clone(other.Mag)
		if e == api.OK {
			spoil(d)
		}
		if !slices.Equal(other.Mag, want) {
			t.Errorf("Far of %v: two answers share memory", z)
		}
		if !slices.Equal(full(b), keep) {
			t.Fatalf("Far of %v: the box has changed", z)
		}
	}
}
