// Package parts is layer 1: complex numbers, compared and reckoned part by part, each step to the bit.
package parts

import (
	"math"

	"rosette/api"
)

// signBit is the one bit in which a float and the float turned about differ.
const signBit = 1 << 63

// farPower is past every power that still matters: from the least subnormal to infinity are fewer than 2100 doublings.
const farPower = 2200

// Same tells whether both parts have the same bits, or are both NaN.
func Same(a, b complex128) bool {
	return samePart(real(a), real(b)) && samePart(imag(a), imag(b))
}

// Like tells whether both parts are equal (noughts of either sign are), or are both NaN.
func Like(a, b complex128) bool {
	return likePart(real(a), real(b)) && likePart(imag(a), imag(b))
}

// Finite tells whether neither part is an infinity or NaN.
func Finite(z complex128) bool {
	return finitePart(real(z)) && finitePart(imag(z))
}

// Add is a plus b, part by part.
func Add(a, b complex128) complex128 {
	return complex(real(a)+real(b), imag(a)+imag(b))
}

// Sub is a less b, part by part.
func Sub(a, b complex128) complex128 {
	return complex(real(a)-real(b), imag(a)-imag(b))
}

// Mul is the product: four products, a difference, a sum, each rounded by itself.
//
// The conversions keep a compiler from joining a product with the sum behind it, which it otherwise may, and which would round once instead of twice. Go's own product of complex numbers gives no such promise.
func Mul(a, b complex128) complex128 {
	p, q := real(a), imag(a)
	c, d := real(b), imag(b)
	return complex(float64(p*c)-float64(q*d), float64(p*d)+float64(q*c))
}

// Turn is z turned by so many quarters of the circle, backward if they are below 0.
func Turn(z complex128, quarters int) complex128 {
	re, im := real(z), imag(z)
	// The low two bits are the rest modulo 4 below 0, too, where % would tell one below 0.
	switch quarters & 3 {
	case 1:
		return complex(about(im), re)
	case 2:
		return complex(about(re), about(im))
	case 3:
		return complex(im, about(re))
	}
	return z
}

// Conj is the conjugate of z.
func Conj(z complex128) complex128 {
	return complex(real(z), about(imag(z)))
}

// Neg is z with both parts turned about.
func Neg(z complex128) complex128 {
	return Turn(z, 2)
}

// Scale is z times 2 to the power, each part rounded once.
func Scale(z complex128, power int) complex128 {
	// math.Ldexp adds the power to the part's own, and would wrap at the ends of int.
	power = min(max(power, -farPower), farPower)
	return complex(scalePart(real(z), power), scalePart(imag(z), power))
}

// Size is the sum of both parts' sizes.
func Size(z complex128) float64 {
	return math.Abs(real(z)) + math.Abs(imag(z))
}

// Norm is the sum of both parts' squares, each square rounded by itself (see Mul).
func Norm(z complex128) float64 {
	re, im := real(z), imag(z)
	return float64(re*re) + float64(im*im)
}

// Split is the list of all real parts, and that of all imaginary ones.
func Split(l []complex128) ([]float64, []float64) {
	re := make([]float64, len(l))
	im := make([]float64, len(l))
	for i, z := range l {
		re[i], im[i] = real(z), imag(z)
	}
	return re, im
}

// Join is the list of the numbers whose parts the two lists hold; ErrShape, if one list is longer.
func Join(re, im []float64) ([]complex128, api.Errno) {
	if len(re) != len(im) {
		return nil, api.ErrShape
	}
	l := make([]complex128, len(re))
	for i := range l {
		l[i] = complex(re[i], im[i])
	}
	return l, api.OK
}

func samePart(x, y float64) bool {
	return math.Float64bits(x) == math.Float64bits(y) || math.IsNaN(x) && math.IsNaN(y)
}

func likePart(x, y float64) bool {
	return x == y || math.IsNaN(x) && math.IsNaN(y)
}

func finitePart(x float64) bool {
	return !math.IsInf(x, 0) && !math.IsNaN(x)
}

// about turns a part about by its sign bit: 0 less a part would leave a nought's sign as it is.
func about(x float64) float64 {
	return math.Float64frombits(math.Float64bits(x) ^ signBit)
}

// scalePart rounds once, at subnormal results too: math.Ldexp sets the exponent and multiplies at most once. The conversion keeps that product apart from a sum behind it.
func scalePart(x float64, power int) float64 {
	return float64(math.Ldexp(x, power))
}
