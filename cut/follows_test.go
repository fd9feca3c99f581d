package cut_test

import (
	"math/big"
	"math/rand"
	"slices"
	"testing"

	"rosette/api"
	"rosette/cut"
	"rosette/limb"
	"rosette/plain"
)

func digits(t *testing.T, x api.Int, bits int) []int64 {
	t.Helper()
	l, e := cut.Digits(x, bits)
	if e != api.OK {
		t.Fatalf("Digits(%v, %d): %v", short(x.Mag), bits, e)
	}
	return l
}

func whole(t *testing.T, l []int64, bits int) api.Int {
	t.Helper()
	x, e := cut.Whole(l, bits)
	if e != api.OK || !limb.Right(x) {
		t.Fatalf("Whole(%v, %d): %v", short(l), bits, e)
	}
	return x
}

// numbers are right whole numbers of all kinds and lengths.
func numbers() []api.Int {
	r := rand.New(rand.NewSource(145))
	l := append(rights(), longs()...)
	for i := range 120 {
		l = append(l, drawn(r, 1+i/2, true))
	}
	return l
}

// digitRows are rows of digits, without a 0 at their end: of the least one alone, of the greatest, of both in turn, drawn.
func digitRows(r *rand.Rand, bits int) [][]int64 {
	half := int64(1) << (bits - 1)
	rows := [][]int64{nil}
	for _, n := range []int{1, 2, 3, 10, 64, 101} {
		rows = append(rows, slices.Repeat([]int64{-half}, n), slices.Repeat([]int64{half - 1}, n), slices.Repeat([]int64{-half, half - 1}, n), slices.Repeat([]int64{half - 1, -half}, n))
		for range 20 {
			l := make([]int64, n)
			for i := range l {
				l[i] = []int64{0, 0, -1, 1, -half, half - 1, r.Int63n(2*half) - half}[r.Intn(7)]
			}
			if l[n-1] == 0 {
				l[n-1] = -1
			}
			rows = append(rows, l)
		}
	}
	return rows
}

// P14.4: Whole of Digits is x.
func TestWholeOfDigits(t *testing.T) {
	for _, bits := range widths() {
		for _, x := range numbers() {
			if y := whole(t, digits(t, x, bits), bits); !same(x, y) {
				t.Fatalf("%v at %d bits: %v", short(x.Mag), bits, short(y.Mag))
			}
		}
	}
}

// P14.4: Digits of what Whole tells of digits are these.
func TestDigitsOfWhole(t *testing.T) {
	r := rand.New(rand.NewSource(146))
	for _, bits := range widths() {
		for _, l := range digitRows(r, bits) {
			if d := digits(t, whole(t, l, bits), bits); !slices.Equal(d, l) {
				t.Fatalf("%v at %d bits: %v", short(l), bits, short(d))
			}
		}
	}
}

// P14.4: a number of so many limbs has at most m digits, within their sizes; and some have just m.
func TestHowManyDigits(t *testing.T) {
	just := 0
	for _, bits := range widths() {
		half := int64(1) << (bits - 1)
		for _, x := range numbers() {
			m := len(x.Mag)*64/bits + 2
			l := digits(t, x, bits)
			if len(l) > m {
				t.Fatalf("%v at %d bits: %d digits, more than %d", short(x.Mag), bits, len(l), m)
			}
			if len(l) == m {
				just++
			}
			if len(l) > 0 && (slices.Max(l) > half || slices.Min(l) < -half) {
				t.Fatalf("%v at %d bits: %v", short(x.Mag), bits, short(l))
			}
		}
	}
	if just < 10 {
		t.Error("too few numbers have the most digits:", just)
	}
}

// P14.4: the rows of x and -x sum up to 0, place by place, but for carries.
func TestDigitsTurnedAbout(t *testing.T) {
	for _, bits := range widths() {
		half := int64(1) << (bits - 1)
		for _, x := range numbers() {
			l, other := digits(t, x, bits), digits(t, about(x), bits)
			if !slices.Contains(l, -half) {
				// Every digit has its own turned about: nothing is carried.
				for i := range l {
					if len(other) != len(l) || other[i] != -l[i] {
						t.Fatalf("%v at %d bits: %v and %v", short(x.Mag), bits, short(l), short(other))
					}
				}
			}
			sum := make([]int64, max(len(l), len(other)))
			for i := range sum {
				for _, d := range [][]int64{l, other} {
					if i < len(d) {
						sum[i] += d[i]
					}
				}
			}
			if y := whole(t, sum, bits); len(y.Mag) > 0 {
				t.Fatalf("%v at %d bits: both sum up to %v", short(x.Mag), bits, short(y.Mag))
			}
		}
	}
}

// someLimbs are numbers of limbs: few, many, and those on both sides of where the width falls.
func someLimbs() []int {
	l := []int{1, 2, 3, 100, 1535}
	last, _ := cut.Width(1)
	for limbs := 2; limbs <= 1535; limbs++ {
		if n, _ := cut.Width(limbs); n != last {
			l, last = append(l, limbs-1, limbs), n
		}
	}
	return l
}

// P14.4: products of rows of m digits of the greatest size are not refused at the width that is told; rows of digits multiply as their numbers do.
func TestProductsAreTold(t *testing.T) {
	r := rand.New(rand.NewSource(147))
	for _, limbs := range someLimbs() {
		bits, e := cut.Width(limbs)
		if e != api.OK {
			t.Fatal(limbs, e)
		}
		m := limbs*64/bits + 2
		greatest := slices.Repeat([]int64{-1 << (bits - 1)}, m)
		if _, e := plain.Times(greatest, greatest); e != api.OK {
			t.Errorf("%d limbs at %d bits: %d digits of the greatest size: %v", limbs, bits, m, e)
		}
		for _, p := range [][2]api.Int{{full(limbs), full(limbs)}, {drawn(r, limbs, true), drawn(r, limbs, true)}, {full(limbs), about(power(64*limbs - 1))}} {
			l, e := plain.Times(digits(t, p[0], bits), digits(t, p[1], bits))
			if e != api.OK {
				t.Fatalf("%d limbs at %d bits: %v", limbs, bits, e)
			}
			want, _ := rightOf(new(big.Int).Mul(valueOf(p[0]), valueOf(p[1])))
			if x := whole(t, l, bits); !same(x, want) {
				t.Errorf("%d limbs at %d bits: the product is wrong", limbs, bits)
			}
		}
	}
}
