package base_test

import (
	"math/rand"
	"slices"
	"strings"
	"testing"

	"rosette/api"
	"rosette/base"
	"rosette/limb"
	"rosette/times"
)

// textOf is Print's text, which must be told.
func textOf(t *testing.T, x api.Int, b int) string {
	t.Helper()
	s, e := base.Print(x, b)
	if e != api.OK {
		t.Fatalf("Print(%s, %d): %v", short(x), b, e)
	}
	return s
}

// countOf is Count's number, which must be told.
func countOf(t *testing.T, x api.Int, b int) int {
	t.Helper()
	n, e := base.Count(x, b)
	if e != api.OK {
		t.Fatalf("Count(%s, %d): %v", short(x), b, e)
	}
	return n
}

// numbers are of all kinds and signs, but 0.
func numbers() []api.Int {
	r := rand.New(rand.NewSource(1901))
	l := []api.Int{}
	for _, x := range append(edges(), full(50), full(api.MaxLimbs), two(maxBits-1)) {
		l = append(l, x, about(x))
	}
	for range 200 {
		l = append(l, drawn(r, 1+r.Intn(9)))
	}
	return append(l, drawn(r, 100), drawn(r, 777), drawn(r, 2048), drawn(r, api.MaxLimbs))
}

// P19.4, P8: Parse of what Print tells is the number; Print of what Parse reads is the text.
func TestThereAndBack(t *testing.T) {
	t.Parallel()
	for _, b := range bases() {
		for _, x := range append(numbers(), api.Int{}) {
			if len(x.Mag) > 1000 && !slices.Contains([]int{2, 10, 16, 35, 36}, b) {
				continue
			}
			s := textOf(t, x, b)
			holdParse(t, s, b, x, api.Fault{})
			y, _ := base.Parse(s, b)
			holdPrint(t, y, b, s, api.OK)
			if n := len(strings.TrimPrefix(s, "-")); countOf(t, x, b) != n {
				t.Errorf("Count(%s, %d) is not %d", short(x), b, n)
			}
		}
	}
}

// holdBetween holds that a number's size is at least the base to the power of its digits less 1, and below that to the power of its digits.
func holdBetween(t *testing.T, x api.Int, b int) {
	t.Helper()
	n := countOf(t, x, b)
	size := plus(x.Mag...)
	low, e := times.Power(limb.Of(int64(b)), n-1)
	if order, _ := limb.Cmp(low, size); e != api.OK || order > 0 {
		t.Errorf("Count(%s, %d): %d, which is too great", short(x), b, n)
	}
	high, e := times.Power(limb.Of(int64(b)), n)
	if order, _ := limb.Cmp(high, size); e != api.ErrLong && order <= 0 {
		t.Errorf("Count(%s, %d): %d, which is too small", short(x), b, n)
	}
}

// P19.4: sizes stand between two powers of the base.
func TestBetweenPowers(t *testing.T) {
	t.Parallel()
	for _, b := range bases() {
		for _, x := range numbers() {
			if len(x.Mag) <= 1000 {
				holdBetween(t, x, b)
			}
		}
	}
	for _, b := range []int{2, 10, 16, 35, 36} {
		holdBetween(t, full(api.MaxLimbs), b)
		holdBetween(t, about(two(maxBits-1)), b)
	}
}

// P19.4: in base 16 each digit stands for four of base 2, in base 4 for two, in base 32 for five, in 8 for three; in base 9 for two of base 3, in 36 for two of base 6, in 27 for three of 3.
func TestDigitsOfDigits(t *testing.T) {
	t.Parallel()
	for _, c := range []struct{ great, least, digits int }{{16, 2, 4}, {4, 2, 2}, {8, 2, 3}, {32, 2, 5}, {16, 4, 2}, {9, 3, 2}, {27, 3, 3}, {36, 6, 2}, {25, 5, 2}} {
		of := map[rune]string{'-': "-"}
		for n, letter := range letters[:c.great] {
			s := textOf(t, limb.Of(int64(n)), c.least)
			of[letter] = strings.Repeat("0", c.digits-len(s)) + s
		}
		for _, x := range numbers() {
			if len(x.Mag) > 1000 && c.great != 16 {
				continue
			}
			var all strings.Builder
			for _, letter := range textOf(t, plus(x.Mag...), c.great) {
				all.WriteString(of[letter])
			}
			if s := strings.TrimLeft(all.String(), "0"); s != textOf(t, plus(x.Mag...), c.least) {
				t.Errorf("%s in base %d: %s, by that in base %d", short(x), c.least, brief(s), c.great)
			}
		}
	}
}

// P19.4: bits are digits of base 2.
func TestBitsAreDigits(t *testing.T) {
	for _, x := range numbers() {
		if n, _ := limb.Bits(x); countOf(t, x, 2) != n {
			t.Errorf("Count(%s, 2) is not %d", short(x), n)
		}
	}
}
