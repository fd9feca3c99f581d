package truth

import (
	"rosette/api"
	"rosette/dyad"
)

// exact is a finite number whose parts are no floats any more, but what those count exactly.
type exact struct {
	re, im api.Dyad
}

// exactOf is z exactly; ErrNumber, unless it is finite.
func exactOf(z complex128) (exact, api.Errno) {
	re, e := dyad.Of(real(z))
	if e != api.OK {
		return exact{}, e
	}
	im, e := dyad.Of(imag(z))
	if e != api.OK {
		return exact{}, e
	}
	return exact{re, im}, api.OK
}

// exactRow has the numbers of x exactly; ErrNumber, unless all are finite.
func exactRow(x []complex128) ([]exact, api.Errno) {
	row := make([]exact, len(x))
	for m, z := range x {
		n, e := exactOf(z)
		if e != api.OK {
			return nil, e
		}
		row[m] = n
	}
	return row, api.OK
}

func (n exact) isZero() bool {
	return len(n.re.Mag) == 0 && len(n.im.Mag) == 0
}
