package dyad

import (
	"math/big"
	"math/rand"
	"slices"
	"testing"
)

// bigOf is a list of limbs as a whole number of the library.
func bigOf(m []uint64) *big.Int {
	n := new(big.Int)
	for i := len(m) - 1; i >= 0; i-- {
		n.Lsh(n, 64).Or(n, new(big.Int).SetUint64(m[i]))
	}
	return n
}

// awkward are numbers of limbs at which guesses go wrong: all noughts or ones, a single bit at either end, and the like.
func awkward(r *rand.Rand, limbs int) []uint64 {
	m := make([]uint64, limbs)
	for i := range m {
		switch r.Intn(7) {
		case 0:
			m[i] = 0
		case 1:
			m[i] = 1<<64 - 1
		case 2:
			m[i] = 1 << 63
		case 3:
			m[i] = 1<<63 - 1
		case 4:
			m[i] = uint64(r.Intn(3))
		default:
			m[i] = r.Uint64() >> r.Intn(64)
		}
	}
	return trim(m)
}

// Roots (P3.4) stand on quotients, whose guesses are seldom wrong: so they are tried with numbers at which they are.
func TestQuotient(t *testing.T) {
	r := rand.New(rand.NewSource(31))
	for range 200000 {
		m, n := awkward(r, r.Intn(7)), awkward(r, 1+r.Intn(4))
		if len(n) == 0 {
			continue
		}
		if r.Intn(3) == 0 {
			m = plus(times(m, n), []uint64{uint64(r.Intn(2))})
		}
		before, by := slices.Clone(m), slices.Clone(n)
		q := quotient(m, n)
		if bigOf(q).Cmp(new(big.Int).Quo(bigOf(m), bigOf(n))) != 0 {
			t.Fatalf("quotient(%x, %x) = %x", m, n, q)
		}
		if !slices.Equal(m, before) || !slices.Equal(n, by) {
			t.Fatalf("quotient changed %x, %x into %x, %x", before, by, m, n)
		}
	}
}

// In these quotients the guess by the top limbs is one too many, so that it must be set right.
func TestQuotientSetRight(t *testing.T) {
	const most = 1<<64 - 1
	for _, x := range [][2][]uint64{
		{{0, 0, 1 << 63, 1<<63 - 1}, {1, 0, 1 << 63}},
		{{3, 0, 1 << 63}, {1, 0, 1 << 61}},
		{{0, most - 1, most}, {most, most}},
		{{0, 0, 0, 1 << 63}, {1, 1 << 63}},
		{{0, most, most - 1, most}, {most, most, most}},
	} {
		if q := quotient(x[0], x[1]); bigOf(q).Cmp(new(big.Int).Quo(bigOf(x[0]), bigOf(x[1]))) != 0 {
			t.Errorf("quotient(%x, %x) = %x", x[0], x[1], q)
		}
	}
}

func TestRootOf(t *testing.T) {
	r := rand.New(rand.NewSource(32))
	for i := range 40000 {
		m := awkward(r, r.Intn(9))
		switch {
		case i < 5000:
			m = trim([]uint64{uint64(i)})
		case r.Intn(2) == 0:
			m = times(m, m)
		}
		if r.Intn(3) == 0 {
			m = plus(m, []uint64{1})
		} else if r.Intn(3) == 0 && len(m) > 0 {
			m = minus(m, []uint64{1})
		}
		n := bigOf(m)
		want := new(big.Int).Sqrt(n)
		exact := new(big.Int).Mul(want, want).Cmp(n) == 0
		if root, whole := rootOf(m); bigOf(root).Cmp(want) != 0 || whole != exact {
			t.Fatalf("rootOf(%x) = %x, %v", m, root, whole)
		}
	}
}
