package shuffle_test

import (
	"math"
	"slices"
	"strconv"
	"sync"
	"testing"

	"rosette/api"
	"rosette/shuffle"
)

// outOf are orders that are none.
var outOf = []int{-1, 15, 16, 17, 31, 32, 63, 64, 65, -14, -64, 1 << 40, math.MaxInt, math.MinInt}

// turned is a right place turned about.
func turned(t *testing.T, order, place int) int {
	t.Helper()
	n, e := shuffle.Turned(order, place)
	if e != api.OK {
		t.Fatalf("Turned(%d, %d): %v", order, place, e)
	}
	return n
}

// row is the right row l turned about.
func row(t *testing.T, l []complex128) []complex128 {
	t.Helper()
	m, e := shuffle.Row(l)
	if e != api.OK || len(m) != len(l) {
		t.Fatalf("Row of %d: %d numbers, %v", len(l), len(m), e)
	}
	return m
}

// bits are both parts' bits, by which NaN are told from one another.
func bits(z complex128) [2]uint64 {
	return [2]uint64{math.Float64bits(real(z)), math.Float64bits(imag(z))}
}

// firstOther is the first place at which the lists differ in any bit, or -1.
func firstOther(a, b []complex128) int {
	for i := range max(len(a), len(b)) {
		if i >= len(a) || i >= len(b) || bits(a[i]) != bits(b[i]) {
			return i
		}
	}
	return -1
}

// counted is a row of the order that has another number at each place.
func counted(order int) []complex128 {
	l := make([]complex128, 1<<order)
	for i := range l {
		l[i] = complex(float64(i), -float64(i)-1)
	}
	return l
}

// odd are floats that a move by reckoning would not leave as they are: noughts of either sign, infinities, NaN of either kind and sign, the least and the greatest.
var odd = []uint64{
	0, 1 << 63,
	0x7ff0000000000000, 0xfff0000000000000,
	0x7ff8000000000001, 0xfff8000000000000, 0x7ff0000000000001, 0xfff0123456789abc, 0x7fffffffffffffff,
	1, 1<<63 | 1, 0x7fefffffffffffff, 0xffefffffffffffff, 0x3ff0000000000000,
}

// oddRow is a row of the order in which odd floats stand in either part, each beside each.
func oddRow(order int) []complex128 {
	l := make([]complex128, 1<<order)
	for i := range l {
		re, im := odd[i%len(odd)], odd[i/len(odd)%len(odd)]
		l[i] = complex(math.Float64frombits(re), math.Float64frombits(im))
	}
	return l
}

// byText is the place turned about as the words say it: its bits written down, and read from the other end.
func byText(t *testing.T, order, place int) int {
	t.Helper()
	if order == 0 {
		return 0
	}
	s := []byte(strconv.FormatInt(int64(place|1<<order), 2)[1:])
	slices.Reverse(s)
	n, err := strconv.ParseInt(string(s), 2, 64)
	if err != nil {
		t.Fatal(err)
	}
	return int(n)
}

// P6.1, P6.2, P6.3: what the document writes out.
func TestExamples(t *testing.T) {
	for _, x := range []struct {
		order, place, want int
		e                  api.Errno
	}{
		{3, 1, 4, api.OK}, {3, 3, 6, api.OK}, {0, 0, 0, api.OK}, {14, 1, 8192, api.OK},
		{3, 8, 0, api.ErrArg}, {15, 0, 0, api.ErrArg}, {-1, 0, 0, api.ErrArg}, {3, -1, 0, api.ErrArg},
	} {
		if n, e := shuffle.Turned(x.order, x.place); n != x.want || e != x.e {
			t.Errorf("Turned(%d, %d) = %d, %v", x.order, x.place, n, e)
		}
	}
	for _, x := range []struct {
		n, order int
		ok       bool
	}{
		{1, 0, true}, {8, 3, true}, {16384, 14, true}, {0, 0, false}, {6, 0, false}, {32768, 0, false}, {-2, 0, false},
	} {
		if order, ok := shuffle.Order(x.n); order != x.order || ok != x.ok {
			t.Errorf("Order(%d) = %d, %v", x.n, order, ok)
		}
	}
	if l := row(t, []complex128{0, 1, 2, 3, 4, 5, 6, 7}); !slices.Equal(l, []complex128{0, 4, 2, 6, 1, 5, 3, 7}) {
		t.Errorf("Row of eight: %v", l)
	}
	if l := row(t, []complex128{complex(3, -4)}); !slices.Equal(l, []complex128{complex(3, -4)}) {
		t.Errorf("Row of one: %v", l)
	}
	for _, l := range [][]complex128{nil, {}, {1, 2, 3}} {
		if m, e := shuffle.Row(l); e != api.ErrShape || len(m) != 0 {
			t.Errorf("Row of %d: %v, %v", len(l), m, e)
		}
	}
}

// P6.1: every place of every order, as its bits written down tell it.
func TestEveryPlace(t *testing.T) {
	for order := range api.MaxOrder + 1 {
		for place := range 1 << order {
			if n, want := turned(t, order, place), byText(t, order, place); n != want {
				t.Fatalf("Turned(%d, %d) = %d, not %d", order, place, n, want)
			}
		}
	}
}

// P6.1: the first and the last place of an order stay; its lowest bit becomes its highest.
func TestEnds(t *testing.T) {
	for order := range api.MaxOrder + 1 {
		last := 1<<order - 1
		if a, b := turned(t, order, 0), turned(t, order, last); a != 0 || b != last {
			t.Errorf("order %d: the first place goes to %d, the last to %d", order, a, b)
		}
		for bit := range order {
			if n := turned(t, order, 1<<bit); n != 1<<(order-1-bit) {
				t.Errorf("Turned(%d, %d) = %d", order, 1<<bit, n)
			}
		}
	}
}

// P6.1: what is no order, or no place of it, is refused, with no place beside the error.
func TestWrongPlaces(t *testing.T) {
	check := func(order, place int) {
		if n, e := shuffle.Turned(order, place); n != 0 || e != api.ErrArg {
			t.Errorf("Turned(%d, %d) = %d, %v", order, place, n, e)
		}
	}
	for _, order := range outOf {
		for _, place := range []int{0, 1, -1, 16383, 16384, math.MaxInt, math.MinInt} {
			check(order, place)
		}
	}
	for order := range api.MaxOrder + 1 {
		for _, place := range []int{-1, -2, 1 << order, 1<<order + 1, 2 << order, 1 << 16, 1 << 32, -1 << order, math.MaxInt, math.MinInt} {
			check(order, place)
		}
	}
}

// P6.2: the powers of two up to the limit have orders, and no other number has.
func TestOrder(t *testing.T) {
	orders := map[int]int{}
	for order := range api.MaxOrder + 1 {
		orders[1<<order] = order
	}
	check := func(n int) {
		want, is := orders[n]
		if order, ok := shuffle.Order(n); order != want || ok != is {
			t.Errorf("Order(%d) = %d, %v", n, order, ok)
		}
	}
	for n := -40000; n <= 70000; n++ {
		check(n)
	}
	for bit := range 63 {
		for _, n := range []int{1 << bit, 1<<bit - 1, 1<<bit + 1, 1<<bit | 1<<62} {
			check(n)
			check(-n)
		}
	}
	check(math.MaxInt)
	check(math.MinInt)
	check(math.MinInt + 1)
}

// P6.3: at each place of the row stands what stood at that place turned about, of every order.
func TestRow(t *testing.T) {
	for order := range api.MaxOrder + 1 {
		l := counted(order)
		for i, z := range row(t, l) {
			if want := l[byText(t, order, i)]; z != want {
				t.Fatalf("order %d at %d: %v, not %v", order, i, z, want)
			}
		}
	}
}

// P6.3: noughts below 0, infinities and NaN, in either part, keep all their bits.
func TestMovedAsTheyAre(t *testing.T) {
	for order := range api.MaxOrder + 1 {
		l := oddRow(order)
		for i, z := range row(t, l) {
			if want := l[byText(t, order, i)]; bits(z) != bits(want) {
				t.Fatalf("order %d at %d: %x, not %x", order, i, bits(z), bits(want))
			}
		}
	}
	for _, re := range odd {
		for _, im := range odd {
			z := complex(math.Float64frombits(re), math.Float64frombits(im))
			if l := row(t, []complex128{z}); bits(l[0]) != [2]uint64{re, im} {
				t.Errorf("Row of %x %x: %x", re, im, bits(l[0]))
			}
		}
	}
}

// P6.3: lists that are no rows of an order are refused, with no list beside the error.
func TestWrongRows(t *testing.T) {
	for _, n := range []int{0, 3, 5, 6, 7, 9, 12, 15, 17, 8191, 8193, 12288, 16383, 16385, 24576, 32767, 32768, 65536} {
		if m, e := shuffle.Row(make([]complex128, n)); e != api.ErrShape || len(m) != 0 {
			t.Errorf("Row of %d: %d numbers, %v", n, len(m), e)
		}
	}
	// A list's spare room is no part of it.
	for _, n := range []int{0, 3, 7} {
		if m, e := shuffle.Row(make([]complex128, n, 8)); e != api.ErrShape || len(m) != 0 {
			t.Errorf("Row of %d with room for 8: %d numbers, %v", n, len(m), e)
		}
	}
	if m := row(t, make([]complex128, 4, 7)); len(m) != 4 {
		t.Errorf("Row of 4 with room for 7: %d numbers", len(m))
	}
}

// P6.4: turned twice a place is itself, and no two places have one turned about.
func TestTwice(t *testing.T) {
	for order := range api.MaxOrder + 1 {
		taken := make([]bool, 1<<order)
		for place := range 1 << order {
			n := turned(t, order, place)
			if n < 0 || n >= len(taken) || taken[n] {
				t.Fatalf("Turned(%d, %d) = %d: no place, or that of another", order, place, n)
			}
			taken[n] = true
			if back := turned(t, order, n); back != place {
				t.Fatalf("order %d: %d goes to %d, and that to %d", order, place, n, back)
			}
		}
	}
}

// P6.4: turned twice a row is itself, bits and all.
func TestRowTwice(t *testing.T) {
	for order := range api.MaxOrder + 1 {
		for _, l := range [][]complex128{counted(order), oddRow(order)} {
			if i := firstOther(row(t, row(t, l)), l); i >= 0 {
				t.Errorf("order %d: turned twice another row at %d", order, i)
			}
		}
	}
}

// P6.4: the first half is the row of the numbers at even places, the second that of those at odd ones.
func TestHalves(t *testing.T) {
	for order := 1; order <= api.MaxOrder; order++ {
		for _, l := range [][]complex128{counted(order), oddRow(order)} {
			var even, uneven []complex128
			for i := 0; i < len(l); i += 2 {
				even, uneven = append(even, l[i]), append(uneven, l[i+1])
			}
			m := row(t, l)
			if i := firstOther(m[:len(m)/2], row(t, even)); i >= 0 {
				t.Errorf("order %d: another first half at %d", order, i)
			}
			if i := firstOther(m[len(m)/2:], row(t, uneven)); i >= 0 {
				t.Errorf("order %d: another second half at %d", order, i)
			}
		}
	}
}

// spoil overwrites all that a list has, its spare room too.
func spoil(l []complex128) {
	l = l[:cap(l)]
	for i := range l {
		l[i] = complex(7, 7)
	}
}

// R3: what is handed in is only read, its spare room too, and no answer shares memory with it or with another one.
func TestMemory(t *testing.T) {
	for _, order := range []int{0, 1, 2, 3, 4, 10, 14} {
		l := append(counted(order), 5, 6, 7)
		n := 1 << order
		keep := slices.Clone(l)
		before := row(t, l[:n])
		want := slices.Clone(before)
		if i := firstOther(l, keep); i >= 0 {
			t.Errorf("order %d: the list handed in is changed at %d", order, i)
		}
		spoil(row(t, l[:n]))
		if firstOther(before, want) >= 0 || firstOther(l, keep) >= 0 {
			t.Errorf("order %d: an answer shares memory", order)
		}
		spoil(l)
		if firstOther(before, want) >= 0 {
			t.Errorf("order %d: an answer shares memory with what was handed in", order)
		}
		if firstOther(row(t, keep[:n]), want) >= 0 {
			t.Errorf("order %d: a call hangs on those before it", order)
		}
	}
}

// R4: calls side by side on one list tell what they tell one by one.
func TestSideBySide(t *testing.T) {
	l := oddRow(12)
	want := row(t, l)
	var calls sync.WaitGroup
	var got [8][]complex128
	for i := range got {
		calls.Go(func() { got[i], _ = shuffle.Row(l) })
	}
	calls.Wait()
	for _, m := range got {
		if i := firstOther(m, want); i >= 0 {
			t.Errorf("another row at %d", i)
		}
	}
}
