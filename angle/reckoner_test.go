package angle

import (
	"math"
	"testing"

	"rosette/api"
	"rosette/dyad"
)

func floatOf(t *testing.T, d api.Dyad) float64 {
	t.Helper()
	x, e := dyad.Float(d)
	if e != api.OK {
		t.Fatal(d, e)
	}
	return x
}

// P4.1: a box holds the true root whatever bits there are, and is as narrow as is said of it. (Of so few bits floats tell it surely.)
func TestBox(t *testing.T) {
	for _, bits := range []int{14, 15, 20, 32, 33} {
		wide := math.Ldexp(1, 1+offBits-bits)
		for place := range turn {
			var r reckoner
			b := r.box(place, bits)
			if r.err != api.OK {
				t.Fatal(place, bits, r.err)
			}
			im, re := math.Sincos(2 * math.Pi * float64(place) / turn)
			for i, x := range []struct {
				gap  api.Gap
				want float64
			}{{b.Re, re}, {b.Im, im}} {
				lo, hi := floatOf(t, x.gap.Lo), floatOf(t, x.gap.Hi)
				if lo > x.want+0x1p-50 || hi < x.want-0x1p-50 {
					t.Fatalf("part %d of the box at %d, of %d bits, is [%g, %g] without %g", i, place, bits, lo, hi, x.want)
				}
				if exact := place%quarter == 0; exact && lo != hi || !exact && hi-lo != wide {
					t.Fatalf("part %d of the box at %d, of %d bits, is [%g, %g]", i, place, bits, lo, hi)
				}
			}
		}
	}
}

// What a reckoner keeps is the first error; with one it does not search on, and tells nothing.
func TestFirstError(t *testing.T) {
	var r reckoner
	wrong := api.Dyad{Neg: true}
	r.signed(dyad.Int(3), true)
	if r.err != api.OK {
		t.Fatal(r.err)
	}
	r.float(api.Dyad{Mag: []uint64{1}, Exp: 5000})
	r.equal(wrong, wrong)
	r.cut(wrong, 3, true)
	if r.err != api.ErrOver {
		t.Error(r.err)
	}
	b := r.narrow(1, 40, func(api.Gap) bool { return false })
	if b.Re.Lo.Mag != nil || b.Re.Hi.Mag != nil || b.Im.Lo.Mag != nil || b.Im.Hi.Mag != nil {
		t.Error(b)
	}
}
