package angle

import (
	"rosette/api"
	"rosette/dyad"
)

// offBits tells how far off a cosine or a sine is that came of roots: by less than 2^offBits of their last bits.
//
// Each root is cut by less than one last bit. What the double angle's cosine was off by is still in it, divided by twice the true root or more. As a double angle's sine is twice the cosine times the sine, twice the true root is the double's sine over the angle's own; so what one root is cut by comes down to the last one divided by the former's sine over the latter's, or more. The last sine is at most 1, and that of an angle which is of the order i, but of none below, is at least 2^(2-i). In all that makes less than the sum of 2^(i-2), i from 3 to MaxOrder.
const offBits = api.MaxOrder - 1

// reckoner keeps the first error of what is reckoned, so that numbers can be handed on, and the error is asked for at last.
type reckoner struct {
	err api.Errno
}

// narrow is a box that holds the root at a place, both of whose gaps have sides that are alike, as alike tells it: more bits are taken till they are. So they come to be, as a part that is not exact is irrational, and lies apart from wherever rounding changes.
func (r *reckoner) narrow(place, bits int, alike func(api.Gap) bool) api.Box {
	var b api.Box
search:
	for ; ; bits *= 2 {
		b = r.box(place, bits)
		switch {
		case r.err != api.OK:
			return api.Box{}
		case alike(b.Re) && alike(b.Im):
			break search
		}
	}
	return b
}

// box holds the root at a place, as narrowly as roots of so many bits tell it; at quarters of a turn it is the root itself.
func (r *reckoner) box(place, bits int) api.Box {
	q := place / quarter
	if place%quarter == 0 {
		return api.Box{
			Re: api.Gap{Lo: atQuarter(q), Hi: atQuarter(q)},
			Im: api.Gap{Lo: atQuarter(q - 1), Hi: atQuarter(q - 1)},
		}
	}
	double := r.cosine(2*place, bits)
	// A sine is the cosine a quarter back, whose double's cosine is that of the angle's double turned about.
	re := r.signed(r.half(double, bits), leftOf(q))
	im := r.signed(r.half(r.signed(double, true), bits), leftOf(q-1))
	return api.Box{Re: r.around(re, bits), Im: r.around(im, bits)}
}

// cosine is the cosine at a place, which may be some turns on: at quarters of a turn itself, else by roots of so many bits.
func (r *reckoner) cosine(place, bits int) api.Dyad {
	if place%quarter == 0 {
		return atQuarter(place / quarter)
	}
	return r.signed(r.half(r.cosine(2*place, bits), bits), leftOf(place/quarter))
}

// half is the size of an angle's cosine by its double's: the root of half the sum of 1 and that. As roots are cut downward, none is above 1, and no sum is below 0.
func (r *reckoner) half(double api.Dyad, bits int) api.Dyad {
	sum := r.keep(dyad.Add(dyad.Int(1), double))
	return r.keep(dyad.Root(r.keep(dyad.Scale(sum, -1)), -bits, false))
}

func (r *reckoner) signed(d api.Dyad, below bool) api.Dyad {
	if !below {
		return d
	}
	return r.keep(dyad.Neg(d))
}

// around is a gap that holds the true number of which d was told by roots of so many bits.
func (r *reckoner) around(d api.Dyad, bits int) api.Gap {
	off := r.keep(dyad.Scale(dyad.Int(1), offBits-bits))
	return api.Gap{Lo: r.keep(dyad.Sub(d, off)), Hi: r.keep(dyad.Add(d, off))}
}

// outward is the narrowest gap between multiples of 2 to the power -bits that holds g.
func (r *reckoner) outward(g api.Gap, bits int) api.Gap {
	return api.Gap{Lo: r.cut(g.Lo, bits, false), Hi: r.cut(g.Hi, bits, true)}
}

func (r *reckoner) cut(d api.Dyad, bits int, up bool) api.Dyad {
	return r.keep(dyad.Cut(d, -bits, up))
}

func (r *reckoner) equal(a, b api.Dyad) bool {
	n, e := dyad.Cmp(a, b)
	r.note(e)
	return n == 0
}

func (r *reckoner) float(d api.Dyad) float64 {
	x, e := dyad.Float(d)
	r.note(e)
	return x
}

// keep is d, as a call of dyad answered it with that error.
func (r *reckoner) keep(d api.Dyad, e api.Errno) api.Dyad {
	r.note(e)
	return d
}

func (r *reckoner) note(e api.Errno) {
	if r.err == api.OK {
		r.err = e
	}
}

// atQuarter is the cosine so many quarters of a turn on; for one quarter less it is the sine there.
func atQuarter(quarters int) api.Dyad {
	return dyad.Int([4]int64{1, 0, -1, 0}[quarters&3])
}

// leftOf tells whether cosines are below 0 in the quarter of a turn that begins so many quarters on; for one quarter less, whether sines are there.
func leftOf(quarters int) bool {
	return (quarters+1)&2 != 0
}
