package ring_test

import (
	"math"
	"math/big"
	"math/rand"
	"slices"
	"sync"
	"testing"

	"rosette/api"
	"rosette/fault"
	"rosette/ring"
)

const (
	great    = math.MaxInt64
	least    = math.MinInt64
	mostSize = 1 << 53
)

// wrongLengths are lengths that no row of an order has.
var wrongLengths = []int{0, 3, 5, 6, 7, 9, 12, 15, 17, 100, 1000, 8191, 8193, 12288, 16383, 16385, 24576, 32767, 32768, 65536}

func row(l ...int64) []int64 { return l }

// allOf is a row of the order of one number.
func allOf(order int, n int64) []int64 { return slices.Repeat(row(n), 1<<order) }

// one is a row of noughts of the order, but for one number.
func one(order, place int, n int64) []int64 {
	l := make([]int64, 1<<order)
	l[place] = n
	return l
}

// drawn is a row of the order, of numbers of both signs of sizes of at most most, which one of them has.
func drawn(r *rand.Rand, order int, most int64) []int64 {
	l := make([]int64, 1<<order)
	for i := range l {
		l[i] = int64(r.Uint64()%(uint64(most)+1)) * int64(1-2*r.Intn(2))
	}
	l[r.Intn(len(l))] = most * int64(1-2*r.Intn(2))
	return l
}

// strewn is a row of the order, of numbers taken out of a list.
func strewn(r *rand.Rand, order int, numbers ...int64) []int64 {
	l := make([]int64, 1<<order)
	for i := range l {
		l[i] = numbers[r.Intn(len(numbers))]
	}
	return l
}

// greatest is the greatest size in a row of numbers of sizes up to 2^53.
func greatest(l []int64) int64 {
	most := int64(0)
	for _, n := range l {
		most = max(most, n, -n)
	}
	return most
}

// exactAt is the round product's number at a place, by the sum that defines it.
func exactAt(a, b []int64, place int) *big.Int {
	sum := new(big.Int)
	for m, n := range a {
		other := big.NewInt(b[(place-m+len(b))%len(b)])
		sum.Add(sum, other.Mul(other, big.NewInt(n)))
	}
	return sum
}

// exactly is the round product as a row, and true, if all of its numbers are int64.
func exactly(a, b []int64) ([]int64, bool) {
	l := make([]int64, len(a))
	for j := range l {
		n := exactAt(a, b, j)
		if !n.IsInt64() {
			return nil, false
		}
		l[j] = n.Int64()
	}
	return l, true
}

// quickly is the round product of rows whose products and sums are int64, as those that Cyclic tells are.
func quickly(a, b []int64) []int64 {
	l := make([]int64, len(a))
	for m, n := range a {
		for i, other := range b {
			l[(m+i)&(len(l)-1)] += n * other
		}
	}
	return l
}

// faultRing is fault's own bound.
func faultRing(t *testing.T, order int, a, b int64) float64 {
	t.Helper()
	f, e := fault.Ring(order, float64(a), float64(b))
	if e != api.OK {
		t.Fatal(order, a, b, e)
	}
	return f
}

// mostBeside is the greatest size, at most 2^53, that the bound lets through beside that of the other row.
func mostBeside(t *testing.T, order int, size int64) int64 {
	t.Helper()
	low, high := int64(0), int64(mostSize)
	for low < high {
		if mid := (low + high + 1) / 2; faultRing(t, order, size, mid) < 0.25 {
			low = mid
		} else {
			high = mid - 1
		}
	}
	return low
}

// holdBound tells where a bound is another one than is wanted, by its bits; beside an error it must be +0.
func holdBound(t *testing.T, a, b []int64, want float64, err api.Errno) {
	t.Helper()
	if f, e := ring.Bound(a, b); e != err || math.Float64bits(f) != math.Float64bits(want) {
		t.Errorf("Bound of %d and %d numbers: %x, %v; wanted are %x, %v", len(a), len(b), f, e, want, err)
	}
}

// holdRow tells where a row, or an error, is another one than is wanted.
func holdRow(t *testing.T, call func(a, b []int64) ([]int64, api.Errno), a, b, want []int64, err api.Errno) {
	t.Helper()
	if l, e := call(a, b); e != err || !slices.Equal(l, want) {
		if len(a) > 8 {
			t.Errorf("rows of %d numbers: %d numbers, another row, %v; wanted are %d, %v", len(a), len(l), e, len(want), err)
			return
		}
		t.Errorf("%v and %v: %v, %v; wanted are %v, %v", a, b, l, e, want, err)
	}
}

func holdCyclic(t *testing.T, a, b, want []int64, err api.Errno) {
	t.Helper()
	holdRow(t, ring.Cyclic, a, b, want, err)
}

func holdPlainly(t *testing.T, a, b, want []int64, err api.Errno) {
	t.Helper()
	holdRow(t, ring.Plainly, a, b, want, err)
}

// P11.1 to P11.3: what the chapter and DOC.md write out.
func TestExamples(t *testing.T) {
	for _, x := range [][3][]int64{
		{row(1, 2, 3, 4), row(1, 0, 0, 0), row(1, 2, 3, 4)},
		{row(1, 2, 3, 4), row(0, 1, 0, 0), row(4, 1, 2, 3)},
		{row(1, 2), row(3, 4), row(11, 10)},
		{row(5), row(-7), row(-35)},
		{row(0, 0), row(9, 9), row(0, 0)},
		{row(1 << 23), row(1 << 23), row(1 << 46)},
	} {
		holdCyclic(t, x[0], x[1], x[2], api.OK)
		holdPlainly(t, x[0], x[1], x[2], api.OK)
	}
	holdBound(t, row(1), row(1), 0x1.0000000000001p-49, api.OK)
	holdBound(t, row(1<<53+1), row(1), 0, api.ErrOver)
	holdBound(t, row(1<<23), row(1<<23), 0x1.0000000000001p-3, api.OK)
	holdBound(t, row(1<<26), row(1<<26), 0x1.0000000000001p3, api.OK)
	holdCyclic(t, row(1<<26), row(1<<26), nil, api.ErrBound)
	holdPlainly(t, row(1<<26), row(1<<26), row(1<<52), api.OK)
	holdCyclic(t, allOf(2, 1<<50), allOf(2, 1<<50), nil, api.ErrBound)
	holdPlainly(t, row(1<<62, 1<<62), row(2, 0), nil, api.ErrOver)
	holdPlainly(t, row(least), row(1), row(least), api.OK)
	holdPlainly(t, row(least), row(-1), nil, api.ErrOver)
}

// P11.1: fault.Ring of the order and of both greatest sizes, to the bit, wherever these stand and of either sign.
func TestBound(t *testing.T) {
	r := rand.New(rand.NewSource(111))
	sizes := row(0, 1, 2, 3, 7, 1<<14, 1<<23-1, 12345678901, 1<<47, 1<<52+1, mostSize-1, mostSize)
	for order := range api.MaxOrder + 1 {
		for _, x := range sizes {
			y := sizes[r.Intn(len(sizes))]
			a, b := drawn(r, order, x), drawn(r, order, y)
			holdBound(t, a, b, faultRing(t, order, x, y), api.OK)
			holdBound(t, b, a, faultRing(t, order, y, x), api.OK)
			place := r.Intn(1 << order)
			holdBound(t, one(order, place, -x), one(order, 0, y), faultRing(t, order, x, y), api.OK)
			holdBound(t, one(order, 1<<order-1, x), allOf(order, -y), faultRing(t, order, x, y), api.OK)
		}
	}
}

// P11.1: bounds by hand, of even orders, whose roots are whole: 16 (k + 1) 2^k R A B of 2^-53, and the float above it.
func TestBoundByHand(t *testing.T) {
	above := func(x float64) float64 { return math.Nextafter(x, 1e300) }
	for _, x := range []struct {
		order int
		a, b  int64
		want  float64
	}{
		{0, 1, 1, above(0x1p-49)},
		{0, mostSize, 1, above(16)},
		{0, -mostSize, -mostSize, above(0x1p57)},
		{2, 5, 1, above(5 * 3 * 0x1p-46)},
		{4, 1, 3, above(3 * 5 * 0x1p-43)},
		{10, 1 << 14, 1 << 14, above(11 * 0x1p-6)},
		{10, 1 << 16, 1 << 16, above(11 * 0x1p-2)},
		{14, 1, -1, above(15 * 0x1p-28)},
		{0, 0, mostSize, 0x1p-1000},
		{14, mostSize, 0, 0x1p-1000},
		{7, 0, 0, 0x1p-1000},
	} {
		holdBound(t, one(x.order, 0, x.a), allOf(x.order, x.b), x.want, api.OK)
	}
}

// P11.1, P11.2: a size of 2^53 is taken, one above it is not, at whatever place of whichever row. Plainly takes all of them.
func TestTooGreat(t *testing.T) {
	for _, order := range []int{0, 1, 2, 5, 14} {
		zeros := make([]int64, 1<<order)
		for _, place := range []int{0, 1<<order - 1} {
			for _, n := range row(mostSize+1, -mostSize-1, mostSize+2, 1<<62, great, least, least+1) {
				a := one(order, place, n)
				holdBound(t, a, zeros, 0, api.ErrOver)
				holdBound(t, zeros, a, 0, api.ErrOver)
				holdCyclic(t, a, zeros, nil, api.ErrOver)
				holdCyclic(t, zeros, a, nil, api.ErrOver)
			}
			for _, n := range row(mostSize, -mostSize, mostSize-1) {
				a := one(order, place, n)
				holdBound(t, a, zeros, 0x1p-1000, api.OK)
				holdCyclic(t, zeros, a, zeros, api.OK)
				holdCyclic(t, a, zeros, zeros, api.OK)
				holdCyclic(t, a, one(order, 0, 1), nil, api.ErrBound)
			}
		}
	}
	holdPlainly(t, row(mostSize+1), row(1), row(mostSize+1), api.OK)
	holdPlainly(t, row(0), row(least), row(0), api.OK)
	holdPlainly(t, row(1, 0), row(great, least), row(great, least), api.OK)
}

// P11.2: by hand, the greatest size that goes through beside a size of 1, of even orders: below 2^51 / (16 (k + 1) 2^k R).
func TestCyclicGreatestByHand(t *testing.T) {
	for _, x := range []struct {
		order int
		most  int64
	}{{0, 1<<47 - 1}, {2, 5864062014805}, {4, 439804651110}, {10, 390451572}, {14, 4473924}} {
		last := 1<<x.order - 1
		unit := one(x.order, 0, -1)
		holdCyclic(t, unit, one(x.order, last, x.most), one(x.order, last, -x.most), api.OK)
		holdCyclic(t, unit, one(x.order, last, x.most+1), nil, api.ErrBound)
		holdCyclic(t, one(x.order, 0, -x.most-1), unit, nil, api.ErrBound)
	}
}

// P11.2: the bound nearest to 1/4 on either side: 2^47 - 1 is 10610063 times 13264529.
func TestCyclicAtAQuarter(t *testing.T) {
	for _, sign := range row(1, -1) {
		holdCyclic(t, row(10610063), row(sign*13264529), row(sign*(1<<47-1)), api.OK)
		holdCyclic(t, row(sign*1), row(1<<47-1), row(sign*(1<<47-1)), api.OK)
		for _, power := range []int{0, 1, 12, 23, 46, 47} {
			holdCyclic(t, row(1<<power), row(sign<<(47-power)), nil, api.ErrBound)
		}
	}
}

// sharpRows are rows of the order of numbers of sizes of at most most, hard on roundings; one of them is of one sign alone, so that its sums are as great as can be.
func sharpRows(r *rand.Rand, order int, most int64) [][]int64 {
	steps := allOf(order, most)
	for i := range steps {
		if i%2 == 1 {
			steps[i] = -most
		}
	}
	return [][]int64{
		drawn(r, order, most),
		allOf(order, most),
		strewn(r, order, most, -most),
		steps,
		strewn(r, order, most, most-1, 0),
		one(order, r.Intn(1<<order), -most),
	}
}

// P11.2: Cyclic at the bound: rows of like sizes and of very unlike ones, as great as the bound lets through, are told exactly; with a size greater by one they are refused.
func TestCyclicAtTheBound(t *testing.T) {
	for order := range api.MaxOrder + 1 {
		r := rand.New(rand.NewSource(int64(order) + 1120))
		like := int64(math.Sqrt(float64(mostBeside(t, order, 1))))
		for i, size := range row(1, like, 3, mostBeside(t, order, 1)) {
			other := mostBeside(t, order, size)
			if other == 0 || faultRing(t, order, size, other+1) < 0.25 {
				t.Fatal("no such size", order, size, other)
			}
			first, second := sharpRows(r, order, size), sharpRows(r, order, other)
			for j := range first {
				if order > 12 && (i > 1 || j > 2) {
					continue
				}
				a, b := first[j], second[(j*5+i)%len(second)]
				holdCyclic(t, a, b, quickly(a, b), api.OK)
			}
			a, b := first[5], one(order, i%(1<<order), other+1)
			holdCyclic(t, a, b, nil, api.ErrBound)
			holdCyclic(t, b, a, nil, api.ErrBound)
		}
	}
}

// P11.2: rows of all sizes that the bound lets through, or does not: the exact product just where it is below 1/4.
func TestCyclicDrawn(t *testing.T) {
	r := rand.New(rand.NewSource(1121))
	told := [2]int{}
	for i := range 6000 {
		order := r.Intn(6)
		if i%500 == 0 {
			order = 6 + r.Intn(3)
		}
		a, b := drawn(r, order, r.Int63n(1<<r.Intn(40))+1), drawn(r, order, r.Int63n(1<<r.Intn(40))+1)
		if faultRing(t, order, greatest(a), greatest(b)) >= 0.25 {
			holdCyclic(t, a, b, nil, api.ErrBound)
			told[0]++
			continue
		}
		want, ok := exactly(a, b)
		if !ok {
			t.Fatal("no int64", order)
		}
		holdCyclic(t, a, b, want, api.OK)
		told[1]++
	}
	if min(told[0], told[1]) < 1000 {
		t.Errorf("refused and told: %v", told)
	}
}

// P11.2: all rows of one and of two small numbers.
func TestCyclicSmall(t *testing.T) {
	for a := range int64(25) {
		for b := range int64(25) {
			holdCyclic(t, row(a-12), row(b-12), row((a-12)*(b-12)), api.OK)
		}
	}
	for i := range int64(5 * 5 * 5 * 5) {
		a, b, c, d := i%5-2, i/5%5-2, i/25%5-2, i/125-2
		holdCyclic(t, row(a, b), row(c, d), row(a*c+b*d, a*d+b*c), api.OK)
	}
}

// P11.3: the round product wherever its numbers are int64, ErrOver else.
func TestPlainlyDrawn(t *testing.T) {
	r := rand.New(rand.NewSource(113))
	told := [2]int{}
	hold := func(a, b []int64) {
		want, ok := exactly(a, b)
		if !ok {
			holdPlainly(t, a, b, nil, api.ErrOver)
			told[0]++
			return
		}
		holdPlainly(t, a, b, want, api.OK)
		told[1]++
	}
	for range 4000 {
		order := r.Intn(5)
		hold(drawn(r, order, great>>r.Intn(62)), drawn(r, order, great>>r.Intn(62)))
		hold(strewn(r, order, great, -great, least, 0), strewn(r, order, 0, 0, 1, -1))
		hold(strewn(r, order, great, -great, least, least+1, 1), strewn(r, order, great, -great, least))
		hold(drawn(r, order, 1<<40), strewn(r, order, 1<<22, -1<<22))
	}
	if min(told[0], told[1]) < 3000 {
		t.Errorf("refused and told: %v", told)
	}
}

// P11.3: both ends of int64, and one step past them.
func TestPlainlyAtTheEnds(t *testing.T) {
	for _, x := range []struct {
		a, b, want []int64
	}{
		{row(great), row(1), row(great)},
		{row(great), row(-1), row(-great)},
		{row(least), row(1), row(least)},
		{row(1), row(least), row(least)},
		{row(least), row(-1), nil},
		{row(-1), row(least), nil},
		{row(1 << 32), row(-1 << 31), row(least)},
		{row(1 << 32), row(1 << 31), nil},
		{row(1 << 32), row(1 << 32), nil},
		{row(least), row(2), nil},
		{row(least), row(least), nil},
		{row(great), row(great), nil},
		{row(great), row(least), nil},
		{row(1<<62, 1<<62), row(1, 1), nil},
		{row(1<<62, 1<<62-1), row(1, 1), row(great, great)},
		{row(-1<<62, -1<<62), row(1, 1), row(least, least)},
		{row(-1<<62, -1<<62-1), row(1, 1), nil},
		// Only the first, or only the last, is past the end.
		{row(great, 0, 0, 0), row(2, 1, 1, 1), nil},
		{row(great, 0, 0, 0), row(1, 1, 1, 2), nil},
		{row(great, 0, 0, 0), row(1, 1, 1, -1), row(great, great, great, -great)},
	} {
		err := api.OK
		if x.want == nil {
			err = api.ErrOver
		}
		holdPlainly(t, x.a, x.b, x.want, err)
	}
}

// P11.3: sums that go beyond int64 on the way, and beyond 128 bits, and come back.
func TestPlainlyComesBack(t *testing.T) {
	holdPlainly(t, row(1<<62, 1<<62), row(-2, 2), row(0, 0), api.OK)
	holdPlainly(t, row(least, great), row(great, great), row(-great, -great), api.OK)
	for order := 1; order <= api.MaxOrder; order++ {
		// As many go up as go down, and there is 1 in all.
		a := append(allOf(order-1, great), allOf(order-1, -great)...)
		a[len(a)-1]++
		for _, n := range row(least, great, 1, -5) {
			if order > 10 && n != least {
				continue
			}
			holdPlainly(t, a, allOf(order, n), allOf(order, n), api.OK)
		}
		a[0]--
		holdPlainly(t, a, allOf(order, least), make([]int64, 1<<order), api.OK)
	}
}

// P11.3: sums that would be int64 if they wrapped at 64 or at 128 bits, or lost what is above.
func TestPlainlyNeverWraps(t *testing.T) {
	// 4 times 2^126 is 2^128; less 2^63 it would be the least int64.
	holdPlainly(t, allOf(2, least), allOf(2, least), nil, api.ErrOver)
	holdPlainly(t, allOf(2, least), row(least, least, least, least+1), nil, api.ErrOver)
	// 4 times (2^63 - 1) times -2^63 is 2^65 above -2^128.
	holdPlainly(t, allOf(2, least), row(great, great, great, great), nil, api.ErrOver)
	holdPlainly(t, allOf(3, 1<<62), allOf(3, -1<<62), nil, api.ErrOver)
	holdPlainly(t, allOf(4, 1<<62), allOf(4, 1<<62), nil, api.ErrOver)
	holdPlainly(t, allOf(4, 1<<62), allOf(4, -1<<62), nil, api.ErrOver)
	holdPlainly(t, allOf(14, least), allOf(14, least), nil, api.ErrOver)
	holdPlainly(t, allOf(14, least), allOf(14, great), nil, api.ErrOver)
	holdPlainly(t, allOf(1, 1<<32), allOf(1, 1<<31), nil, api.ErrOver)
	holdPlainly(t, allOf(1, 1<<33), allOf(1, 1<<31), nil, api.ErrOver)
}

// P11.2, P11.3: rows of 2^14 numbers, whole against the sums by definition, and some of their numbers one by one.
func TestGreatestOrder(t *testing.T) {
	r := rand.New(rand.NewSource(114))
	a, b := drawn(r, 14, 2000), drawn(r, 14, 2000)
	want := quickly(a, b)
	for _, place := range []int{0, 1, 5000, 8191, 8192, 16383} {
		if exactAt(a, b, place).Cmp(big.NewInt(want[place])) != 0 {
			t.Fatal("the tests' own product is wrong", place)
		}
	}
	holdCyclic(t, a, b, want, api.OK)
	holdPlainly(t, a, b, want, api.OK)
}

// P11.1 to P11.3: rows that are none, or do not fit, are refused ahead of all else, with nothing beside the error.
func TestWrongShape(t *testing.T) {
	r := rand.New(rand.NewSource(115))
	numbers := strewn(r, 16, 0, 1, -1, 2)
	over := strewn(r, 16, least, great, mostSize+1)
	refused := func(n, m int) {
		for _, p := range [][2][]int64{{numbers[:n], numbers[:m]}, {over[:n], over[:m]}, {over[:n], numbers[:m]}, {numbers[:n], over[:m]}} {
			holdBound(t, p[0], p[1], 0, api.ErrShape)
			holdCyclic(t, p[0], p[1], nil, api.ErrShape)
			holdPlainly(t, p[0], p[1], nil, api.ErrShape)
		}
	}
	for _, n := range wrongLengths {
		refused(n, n)
		refused(n, 1)
		refused(1, n)
		refused(16384, n)
		refused(n, 4)
	}
	for _, n := range [][2]int{{1, 2}, {2, 1}, {2, 4}, {4, 2}, {16384, 8192}, {8192, 16384}, {1, 16384}, {16384, 1}, {16384, 32768}} {
		refused(n[0], n[1])
	}
	for _, none := range [][]int64{nil, {}} {
		holdBound(t, none, nil, 0, api.ErrShape)
		holdCyclic(t, none, nil, nil, api.ErrShape)
		holdPlainly(t, none, nil, nil, api.ErrShape)
		holdCyclic(t, none, row(1), nil, api.ErrShape)
		holdCyclic(t, row(1), none, nil, api.ErrShape)
	}
}

// P11.2: a number that is too great counts ahead of a bound that is.
func TestOverAheadOfBound(t *testing.T) {
	for order := range 5 {
		for _, n := range row(mostSize+1, -mostSize-1, least) {
			holdCyclic(t, one(order, 0, n), allOf(order, mostSize), nil, api.ErrOver)
			holdCyclic(t, allOf(order, mostSize), one(order, 1<<order-1, n), nil, api.ErrOver)
			holdCyclic(t, allOf(order, n), allOf(order, n), nil, api.ErrOver)
		}
		holdCyclic(t, allOf(order, mostSize), allOf(order, -mostSize), nil, api.ErrBound)
	}
}

// spoil overwrites all that a list has, its spare room too.
func spoil(l []int64) {
	l = l[:cap(l)]
	for i := range l {
		l[i] = 7
	}
}

// R3: rows are only read, their spare room too; answers are new memory.
func TestMemory(t *testing.T) {
	r := rand.New(rand.NewSource(3))
	for _, order := range []int{0, 1, 2, 3, 6} {
		n := 1 << order
		a, b := drawn(r, order+1, 99), drawn(r, order+1, 99)
		aKeep, bKeep := slices.Clone(a), slices.Clone(b)
		untouched := func() {
			t.Helper()
			if !slices.Equal(a, aKeep) || !slices.Equal(b, bKeep) {
				t.Fatalf("order %d: what was handed in has changed", order)
			}
		}
		ring.Bound(a[:n], b[:n])
		untouched()
		for _, call := range []func(a, b []int64) ([]int64, api.Errno){ring.Cyclic, ring.Plainly} {
			first, _ := call(a[:n], b[:n])
			second, _ := call(a[:n], b[:n])
			want := quickly(a[:n], b[:n])
			spoil(second)
			if !slices.Equal(first, want) {
				t.Errorf("order %d: two answers share memory", order)
			}
			spoil(first)
			untouched()
			holdRow(t, call, a[:n], b[:n], want, api.OK)
			call(a[:n], one(order, 0, least))
			call(one(order, 0, great), b[:n])
			untouched()
		}
	}
}

// R3: both rows may be one, or lie over each other.
func TestOneRowTwice(t *testing.T) {
	l := row(1, -2, 3, 5, 7, 0, -1, 1, 4, 9)
	keep := slices.Clone(l)
	for _, p := range [][2][]int64{{l[:8], l[:8]}, {l[:8], l[2:]}, {l[1:9], l[:8]}, {l[:4], l[4:8]}} {
		want := quickly(p[0], p[1])
		holdCyclic(t, p[0], p[1], want, api.OK)
		holdPlainly(t, p[0], p[1], want, api.OK)
	}
	if !slices.Equal(l, keep) {
		t.Error(l)
	}
}

// R4: calls side by side, of one row, tell what they tell one by one.
func TestSideBySide(t *testing.T) {
	r := rand.New(rand.NewSource(4))
	a, b := drawn(r, 7, 1000), drawn(r, 7, 1000)
	want := quickly(a, b)
	far, _ := ring.Bound(a, b)
	var calls sync.WaitGroup
	for i := range 8 {
		calls.Go(func() {
			l, _ := ring.Cyclic(a, b)
			m, _ := ring.Plainly(a, b)
			f, _ := ring.Bound(a, b)
			if !slices.Equal(l, want) || !slices.Equal(m, want) || f != far {
				t.Errorf("call %d tells another row", i)
			}
		})
	}
	calls.Wait()
}
