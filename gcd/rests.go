package gcd

import (
	"slices"

	"rosette/api"
	"rosette/divide"
	"rosette/limb"
	"rosette/times"
)

// A row is a rest on the way from two sizes a and b to their greatest common divisor, and what it is made of: how often a and b go into it, without signs.
type row[T any] struct {
	rest T
	made [2]T
}

// A pair is two rests that follow one another: the first is made[0] a less made[1] b, the second made[1] b less made[0] a; once turned, each is 0 less that.
type pair struct {
	rows   [2]row[api.Int]
	turned bool
}

// lastOf is the pair of the greatest common divisor of a's and b's sizes and of 0, in new memory, and what they are made of, if both are asked for; of one it is a alone.
func lastOf(a, b api.Int, asked int) pair {
	p := pair{}
	for i, x := range []api.Int{a, b} {
		p.rows[i].rest.Mag = slices.Clone(x.Mag)
		// What is not asked for is 0 from here on, and costs nothing.
		if i < asked {
			p.rows[i].made[i] = limb.Of(1)
		}
	}
	// None is too long: made is 0 or 1 at first, and then does not fall, and of the rest 0 it is b and a over the divisor.
	for !isNought(p.rows[1].rest) {
		if seen := foreseen(p.rows[0].rest, p.rows[1].rest); seen[0].made[1] > 0 {
			p.leap(seen)
		} else {
			p.step()
		}
	}
	return p
}

// step goes on by one rest.
func (p *pair) step() {
	quotient, rest, _ := divide.Trunc(p.rows[0].rest, p.rows[1].rest)
	next := row[api.Int]{rest: rest}
	for i := range next.made {
		more, _ := times.Mul(quotient, p.rows[1].made[i])
		next.made[i], _ = limb.Add(p.rows[0].made[i], more)
	}
	p.rows[0], p.rows[1] = p.rows[1], next
	p.turned = !p.turned
}

// leap goes on by all rests that were foreseen.
func (p *pair) leap(seen [2]row[uint64]) {
	by := [2][2]uint64{seen[0].made, seen[1].made}
	mix(&p.rows[0].rest, &p.rows[1].rest, by, gaps)
	for i := range p.rows[0].made {
		mix(&p.rows[0].made[i], &p.rows[1].made[i], by, sums)
	}
}

// madeOf is how often a and b, each below 0 or not, go into the divisor, of which this is the last pair: a from 0 times on, and less often than b over it says. B is not 0.
func (p *pair) madeOf(aNeg, bNeg bool) (api.Int, api.Int) {
	x, y, turned := p.rows[0].made[0], p.rows[0].made[1], p.turned
	// The last quotient is 2 or more, but where a and b are of one size, and x is 0: so x is less than what the rest 0 is made of, and y not more. Of this both may be taken off, as 0 is left: that turns the signs about.
	if turned != aNeg && !isNought(x) {
		x, _ = limb.Sub(p.rows[1].made[0], x)
		y, _ = limb.Sub(p.rows[1].made[1], y)
		turned = !turned
	}
	y.Neg = turned == bNeg && !isNought(y)
	return x, y
}
