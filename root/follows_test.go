package root_test

import (
	"math/big"
	"math/rand"
	"slices"
	"testing"

	"rosette/api"
	"rosette/limb"
	"rosette/root"
	"rosette/times"
)

// told is what a call told that must not be refused; it must be right.
func told(t *testing.T, x api.Int, e api.Errno) api.Int {
	t.Helper()
	if e != api.OK || !limb.Right(x) {
		t.Fatalf("%s, %v", short(x), e)
	}
	return x
}

// rootOf is Of's root, which must be told.
func rootOf(t *testing.T, a api.Int, n int) api.Int {
	t.Helper()
	x, e := root.Of(a, n)
	return told(t, x, e)
}

// powerOf is b to the power n by the program itself, which must be told.
func powerOf(t *testing.T, b api.Int, n int) api.Int {
	t.Helper()
	x, e := times.Power(b, n)
	return told(t, x, e)
}

// compared is -1, 0 or 1, as the first is below, the same, above.
func compared(t *testing.T, a, b api.Int) int {
	t.Helper()
	c, e := limb.Cmp(a, b)
	if e != api.OK {
		t.Fatalf("Cmp(%s, %s): %v", short(a), short(b), e)
	}
	return c
}

// numbers are of all kinds and signs.
func numbers() []api.Int {
	r := rand.New(rand.NewSource(1801))
	l := []api.Int{}
	for _, a := range append(edges(), full(50), full(api.MaxLimbs), two(maxBits-1)) {
		l = append(l, a, about(a))
	}
	for range 300 {
		l = append(l, drawn(r, r.Intn(9)))
	}
	return append(l, drawn(r, 100), drawn(r, 2047), drawn(r, api.MaxLimbs))
}

// P18.4, P7: the rest of a square root is from 0 to twice the root, and with the root's square it makes the number.
func TestRestOfSquare(t *testing.T) {
	t.Parallel()
	for _, x := range numbers() {
		a := sizeOf(x)
		r, rest, e := root.Square(a)
		told(t, rest, e)
		twice, e := limb.Shift(told(t, r, e), 1)
		if rest.Neg || compared(t, rest, told(t, twice, e)) > 0 {
			t.Errorf("Square(%s): %s, %s", short(a), short(r), short(rest))
		}
		all, e := limb.Add(powerOf(t, r, 2), rest)
		if !same(told(t, all, e), a) {
			t.Errorf("Square(%s): %s and %s do not make it", short(a), short(r), short(rest))
		}
		if !same(r, rootOf(t, a, 2)) {
			t.Errorf("Square(%s): %s, which is not Of's root", short(a), short(r))
		}
	}
}

// P18.4: of a power of a whole number the root for that n is the number, for an even n its size.
func TestRootsOfPowers(t *testing.T) {
	t.Parallel()
	for _, b := range numbers() {
		for _, n := range []int{1, 2, 3, 4, 5, 6, 9, 10, 31, 64, 101} {
			a, e := times.Power(b, n)
			if e == api.ErrLong {
				continue
			}
			want := b
			if n%2 == 0 {
				want = sizeOf(b)
			}
			holdOf(t, told(t, a, e), n, want, api.OK)
		}
	}
}

// P18.4: roots do not fall as a rises.
func TestRootsDoNotFall(t *testing.T) {
	t.Parallel()
	l := numbers()
	for n := int64(-300); n <= 300; n++ {
		l = append(l, small(n))
	}
	slices.SortFunc(l, func(a, b api.Int) int { return compared(t, a, b) })
	for _, n := range []int{1, 2, 3, 4, 5, 7, 8, 63, 64, 1001} {
		last := about(full(api.MaxLimbs))
		for _, a := range l {
			if a.Neg && n%2 == 0 {
				continue
			}
			if n == 2 {
				r, _, e := root.Square(a)
				if compared(t, last, told(t, r, e)) > 0 {
					t.Errorf("Square(%s): %s is below %s", short(a), short(r), short(last))
				}
			}
			r := rootOf(t, a, n)
			if compared(t, last, r) > 0 {
				t.Errorf("Of(%s, %d): %s is below %s", short(a), n, short(r), short(last))
			}
			last = r
		}
	}
}

// P7: a root to the power n is not above the number, and that of one more is, or is too long.
func TestGreatestNotAbove(t *testing.T) {
	t.Parallel()
	for _, a := range numbers() {
		for _, n := range []int{1, 2, 3, 4, 5, 6, 10, 11, 65, 1001} {
			if a.Neg && n%2 == 0 {
				continue
			}
			r := rootOf(t, a, n)
			// Below 0 a root's power can be too long: it is below all that are right.
			if p, e := times.Power(r, n); e != api.OK && !a.Neg || e == api.OK && compared(t, p, a) > 0 {
				t.Errorf("Of(%s, %d): %s, whose power is above", short(a), n, short(r))
			}
			next, e := limb.Add(r, limb.Of(1))
			if e != api.OK {
				continue
			}
			if p, e := times.Power(next, n); e == api.OK && compared(t, p, a) <= 0 {
				t.Errorf("Of(%s, %d): %s, but one more is not above", short(a), n, short(r))
			}
		}
	}
}

// P18.4: a root of a root is the root for the product of both n, from 0 on.
func TestRootsOfRoots(t *testing.T) {
	t.Parallel()
	for _, x := range numbers() {
		a := sizeOf(x)
		for _, n := range [][2]int{{2, 2}, {2, 3}, {3, 2}, {3, 5}, {7, 11}, {64, 3}} {
			if r := rootOf(t, rootOf(t, a, n[0]), n[1]); !same(r, rootOf(t, a, n[0]*n[1])) {
				t.Errorf("roots of %s for %d and %d: %s", short(a), n[0], n[1], short(r))
			}
		}
	}
}

// P18.3, P18.4: the b that Perfect tells makes the number with n, is above 0 if that is, and is no power itself, but to the power 1.
func TestPerfectTogether(t *testing.T) {
	t.Parallel()
	l := numbers()
	for _, b := range numbers() {
		if len(b.Mag) < 9 {
			l = append(l, powerOf(t, b, 2), powerOf(t, b, 3), powerOf(t, b, 12))
		}
	}
	for _, a := range l {
		b, n, e := root.Perfect(a)
		told(t, b, e)
		if n < 1 || b.Neg != a.Neg || !same(powerOf(t, b, n), a) {
			t.Errorf("Perfect(%s): %s, %d", short(a), short(b), n)
		}
		if b.Neg && n%2 == 0 {
			t.Errorf("Perfect(%s): %d is even", short(a), n)
		}
		holdPerfect(t, b, b, 1, api.OK)
	}
}

// P18.3: Perfect of a power has n as many times as great, where no sign stands against it.
func TestPerfectOfPowers(t *testing.T) {
	t.Parallel()
	r := rand.New(rand.NewSource(1802))
	for range 200 {
		x := drawn(r, 1+r.Intn(5))
		if valueOf(x).CmpAbs(big.NewInt(1)) == 0 {
			continue
		}
		b, n, e := root.Perfect(x)
		told(t, b, e)
		for _, m := range []int{3, 5, 9, 15} {
			holdPerfect(t, powerOf(t, x, m), b, n*m, api.OK)
		}
		b, n, e = root.Perfect(sizeOf(x))
		told(t, b, e)
		holdPerfect(t, powerOf(t, x, 2), b, 2*n, api.OK)
		holdPerfect(t, powerOf(t, x, 6), b, 6*n, api.OK)
	}
}
