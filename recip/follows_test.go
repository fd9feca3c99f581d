package recip_test

import (
	"math/big"
	"math/bits"
	"math/rand"
	"testing"

	"rosette/api"
	"rosette/limb"
	"rosette/recip"
)

// told is what a call told that must not be refused; it must be right.
func told(t *testing.T, x api.Int, e api.Errno) api.Int {
	t.Helper()
	if e != api.OK || !limb.Right(x) {
		t.Fatalf("%s, %v", short(x), e)
	}
	return x
}

// reciprocal is Of's, which must be told.
func reciprocal(t *testing.T, d api.Int, bits int) api.Int {
	t.Helper()
	q, e := recip.Of(d, bits)
	return told(t, q, e)
}

// stepped is Step's, which must be told.
func stepped(t *testing.T, d, r api.Int, bits int) api.Int {
	t.Helper()
	s, e := recip.Step(d, r, bits)
	return told(t, s, e)
}

// asking is a divisor and bits.
type asking struct {
	d    api.Int
	bits int
}

// askings are of all kinds, none with a reciprocal that is too long.
func askings() []asking {
	r := rand.New(rand.NewSource(1601))
	l := []asking{{plus(2), maxBits}, {plus(1), maxBits - 1}, {full(2048), maxBits}, {full(api.MaxLimbs), maxBits}, {full(api.MaxLimbs), 0}, {power(maxBits - 1), maxBits - 1}, {divisor(r, 3000), maxBits}}
	for _, d := range divisors() {
		for _, bits := range []int{0, 1, 2, 63, 64, 65, 128, 500, 1000} {
			l = append(l, asking{d, bits})
		}
	}
	for range 300 {
		l = append(l, asking{divisor(r, 1+r.Intn(10)), r.Intn(1500)})
	}
	return l
}

// P16.1, P7: d times the reciprocal is at most 2^bits, d times one more above it.
func TestWithinOne(t *testing.T) {
	t.Parallel()
	for _, a := range askings() {
		q := reciprocal(t, a.d, a.bits)
		left := missing(valueOf(a.d), valueOf(q), a.bits)
		if q.Neg || left.Sign() < 0 || left.Cmp(valueOf(a.d)) >= 0 {
			t.Errorf("Of(%s, %d): %s leaves %v bits", short(a.d), a.bits, short(q), left.BitLen())
		}
	}
}

// P16.3: Of is its own step.
func TestOwnStep(t *testing.T) {
	t.Parallel()
	for _, a := range askings() {
		q := reciprocal(t, a.d, a.bits)
		holdStep(t, a.d, q, a.bits, q, api.OK)
	}
}

// P16.3: no step leads above Of, and what it leaves, times 2^bits, is at least E E, and less than E E and d 2^bits.
func TestWhatAStepLeaves(t *testing.T) {
	t.Parallel()
	r := rand.New(rand.NewSource(1602))
	for _, a := range askings() {
		q, d := valueOf(reciprocal(t, a.d, a.bits)), valueOf(a.d)
		for _, from := range append(froms(a.d, a.bits), drawn(r, r.Intn(5)), drawn(r, r.Intn(20))) {
			if _, e := stepOf(a.d, from, a.bits); e == api.ErrLong {
				continue
			}
			s := valueOf(stepped(t, a.d, from, a.bits))
			if s.Cmp(q) > 0 {
				t.Fatalf("Step(%s, %s, %d) is above Of", short(a.d), short(from), a.bits)
			}
			square := missing(d, valueOf(from), a.bits)
			square.Mul(square, square)
			left := missing(d, s, a.bits)
			left.Lsh(left, uint(a.bits))
			above := new(big.Int).Add(square, new(big.Int).Lsh(d, uint(a.bits)))
			if left.Cmp(square) < 0 || left.Cmp(above) >= 0 {
				t.Fatalf("Step(%s, %s, %d) leaves what it may not", short(a.d), short(from), a.bits)
			}
		}
	}
}

// P16.3, P7: from a power of two next to the reciprocal each step doubles the bits that are right, and so few steps lead to within one of it.
func TestStepsLeadThere(t *testing.T) {
	t.Parallel()
	for _, a := range askings() {
		length := valueOf(a.d).BitLen()
		if a.bits < length+2 {
			continue
		}
		q, near := reciprocal(t, a.d, a.bits), power(a.bits-length)
		for range bits.Len(uint(a.bits-length)) + 1 {
			near = stepped(t, a.d, near, a.bits)
		}
		if !same(near, q) && !same(more(near, 1), q) {
			t.Errorf("steps to Of(%s, %d) lead to %s, not %s", short(a.d), a.bits, short(near), short(q))
		}
	}
}

// P16.1: the reciprocal of a number 2^n times as great, of n bits more, is the same; n bits more of the same number's have the former's ahead.
func TestShifted(t *testing.T) {
	t.Parallel()
	for _, a := range askings() {
		for _, n := range []int{1, 63, 64, 200} {
			d, e := limb.Shift(a.d, n)
			if _, long := quotientOf(a.d, a.bits+n); e != api.OK || long != api.OK || a.bits+n > maxBits {
				continue
			}
			q := reciprocal(t, a.d, a.bits)
			holdOf(t, d, a.bits+n, q, api.OK)
			cut, e := limb.Shift(reciprocal(t, a.d, a.bits+n), -n)
			if !same(told(t, cut, e), q) {
				t.Errorf("Of(%s, %d) and of %d bits more are unlike", short(a.d), a.bits, n)
			}
		}
	}
}
