package truth

import (
	"rosette/angle"
	"rosette/api"
	"rosette/dyad"
)

// quarterOrder is the least order whose wheel has all quarters of a turn.
const quarterOrder = 2

// reckoner keeps the first error of what is reckoned, so that numbers can be handed on, and the error is asked for at last.
type reckoner struct {
	err api.Errno
}

// totalSize is the sum of all numbers' sizes, and whether none of them is too great.
func (r *reckoner) totalSize(row []exact) (api.Dyad, bool) {
	var total api.Dyad
	limit := r.scaled(dyad.Int(1), sizePower)
	for _, n := range row {
		size := r.plus(r.size(n.re), r.size(n.im))
		if r.less(limit, size) {
			return api.Dyad{}, false
		}
		total = r.plus(total, size)
	}
	return total, true
}

// powerOver is the least power from 0 on of which two is not below d.
func (r *reckoner) powerOver(d api.Dyad) int {
	power := 0
	for r.less(r.scaled(dyad.Int(1), power), d) {
		power++
	}
	return power
}

// roots is a function that tells, of a step from 0 on, the box of the order's root there, between multiples of 2 to the power -bits.
//
// To ask for an angle costs far more than all else. But cosines and sines of all steps, and their gaps, are cosines of the first quarter's steps, some turned about: so only those are asked for, and each of them once.
func (r *reckoner) roots(order, bits int) func(step int) api.Box {
	fine := max(order, quarterOrder)
	quarter := 1 << (fine - quarterOrder)
	known := map[int]api.Gap{}
	first := func(step int) api.Gap {
		g, ok := known[step]
		if !ok {
			g = r.keepGap(angle.Cos(fine, step, bits))
			known[step] = g
		}
		return g
	}
	cosine := func(step int) api.Gap {
		step &= 4*quarter - 1
		// Turned back the cosine is the same.
		step = min(step, 4*quarter-step)
		if step > quarter {
			return r.about(first(2*quarter - step))
		}
		return first(step)
	}
	return func(step int) api.Box {
		step <<= fine - order
		return api.Box{Re: cosine(step), Im: cosine(step - quarter)}
	}
}

// total is the sum of n boxes, of which the function tells each.
func (r *reckoner) total(n int, box func(m int) api.Box) api.Box {
	var sum api.Box
	for m := range n {
		b := box(m)
		sum = api.Box{Re: r.plusGap(sum.Re, b.Re), Im: r.plusGap(sum.Im, b.Im)}
	}
	return sum
}

// product is the box of the products of n and a box's numbers.
func (r *reckoner) product(b api.Box, n exact) api.Box {
	return api.Box{
		Re: r.minusGap(r.timesGap(b.Re, n.re), r.timesGap(b.Im, n.im)),
		Im: r.plusGap(r.timesGap(b.Im, n.re), r.timesGap(b.Re, n.im)),
	}
}

// timesGap is g times c; below 0 that changes the ends about.
func (r *reckoner) timesGap(g api.Gap, c api.Dyad) api.Gap {
	if c.Neg {
		g.Lo, g.Hi = g.Hi, g.Lo
	}
	return api.Gap{Lo: r.times(g.Lo, c), Hi: r.times(g.Hi, c)}
}

func (r *reckoner) plusGap(g, h api.Gap) api.Gap {
	return api.Gap{Lo: r.plus(g.Lo, h.Lo), Hi: r.plus(g.Hi, h.Hi)}
}

func (r *reckoner) minusGap(g, h api.Gap) api.Gap {
	return api.Gap{Lo: r.minus(g.Lo, h.Hi), Hi: r.minus(g.Hi, h.Lo)}
}

// about is the gap turned about.
func (r *reckoner) about(g api.Gap) api.Gap {
	return r.minusGap(api.Gap{}, g)
}

// within tells whether d lies in the gap.
func (r *reckoner) within(g api.Gap, d api.Dyad) bool {
	return !r.less(d, g.Lo) && !r.less(g.Hi, d)
}

// outside is how far d lies outside of the gap, 0 within it.
func (r *reckoner) outside(g api.Gap, d api.Dyad) api.Dyad {
	switch {
	case r.less(d, g.Lo):
		return r.minus(g.Lo, d)
	case r.less(g.Hi, d):
		return r.minus(d, g.Hi)
	}
	return api.Dyad{}
}

// size is how far d is from 0.
func (r *reckoner) size(d api.Dyad) api.Dyad {
	if !d.Neg {
		return d
	}
	return r.keep(dyad.Neg(d))
}

func (r *reckoner) greater(a, b api.Dyad) api.Dyad {
	if r.less(a, b) {
		return b
	}
	return a
}

func (r *reckoner) less(a, b api.Dyad) bool {
	side, e := dyad.Cmp(a, b)
	r.note(e)
	return side < 0
}

func (r *reckoner) plus(a, b api.Dyad) api.Dyad {
	return r.keep(dyad.Add(a, b))
}

func (r *reckoner) minus(a, b api.Dyad) api.Dyad {
	return r.keep(dyad.Sub(a, b))
}

func (r *reckoner) times(a, b api.Dyad) api.Dyad {
	return r.keep(dyad.Mul(a, b))
}

func (r *reckoner) scaled(d api.Dyad, power int) api.Dyad {
	return r.keep(dyad.Scale(d, power))
}

// keep is d, as a call of dyad answered it with that error.
func (r *reckoner) keep(d api.Dyad, e api.Errno) api.Dyad {
	r.note(e)
	return d
}

// keepGap is g, as a call of angle answered it with that error.
func (r *reckoner) keepGap(g api.Gap, e api.Errno) api.Gap {
	r.note(e)
	return g
}

func (r *reckoner) note(e api.Errno) {
	if r.err == api.OK {
		r.err = e
	}
}
