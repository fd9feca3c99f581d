package plain_test

import (
	"math"
	"math/big"
	"math/rand"
	"slices"
	"sync"
	"testing"

	"rosette/api"
	"rosette/plain"
	"rosette/ring"
)

const (
	great    = math.MaxInt64
	least    = math.MinInt64
	mostSize = 1 << 53
)

func row(l ...int64) []int64 { return l }

// allOf is a row of n times one number.
func allOf(n int, number int64) []int64 { return slices.Repeat(row(number), n) }

// one is a row of n noughts, but for one number.
func one(n, place int, number int64) []int64 {
	l := make([]int64, n)
	l[place] = number
	return l
}

// drawn is a row of n numbers of both signs of sizes of at most most, which one of them has.
func drawn(r *rand.Rand, n int, most int64) []int64 {
	l := make([]int64, n)
	for i := range l {
		l[i] = int64(r.Uint64()%(uint64(most)+1)) * int64(1-2*r.Intn(2))
	}
	l[r.Intn(n)] = most * int64(1-2*r.Intn(2))
	return l
}

// strewn is a row of n numbers taken out of a list.
func strewn(r *rand.Rand, n int, numbers ...int64) []int64 {
	l := make([]int64, n)
	for i := range l {
		l[i] = numbers[r.Intn(len(numbers))]
	}
	return l
}

// exactly is the product as a row, and true, if all of its numbers are int64. No row is none.
func exactly(a, b []int64) ([]int64, bool) {
	sums := make([]big.Int, len(a)+len(b)-1)
	for j, x := range a {
		for m, y := range b {
			p := big.NewInt(x)
			sums[j+m].Add(&sums[j+m], p.Mul(p, big.NewInt(y)))
		}
	}
	l := make([]int64, len(sums))
	for i := range sums {
		if !sums[i].IsInt64() {
			return nil, false
		}
		l[i] = sums[i].Int64()
	}
	return l, true
}

// quickly is the product of rows of which it is one of int64: what wraps round on the way comes back.
func quickly(a, b []int64) []int64 {
	l := make([]int64, len(a)+len(b)-1)
	for j, x := range a {
		for m, y := range b {
			l[j+m] += x * y
		}
	}
	return l
}

// padTo is how many numbers each of two rows has, once padded.
func padTo(a, b []int64) int {
	n := 1
	for n < len(a)+len(b)-1 {
		n *= 2
	}
	return n
}

// bound is ring.Bound of the padded rows.
func bound(t *testing.T, a, b []int64) float64 {
	t.Helper()
	n := padTo(a, b)
	f, e := ring.Bound(append(slices.Clone(a), make([]int64, n-len(a))...), append(slices.Clone(b), make([]int64, n-len(b))...))
	if e != api.OK {
		t.Fatal(len(a), len(b), e)
	}
	return f
}

// mostBeside is the greatest size, at most 2^53, that the bound lets through in rows of an order, beside that of the other row.
func mostBeside(t *testing.T, order int, size int64) int64 {
	t.Helper()
	low, high := int64(0), int64(mostSize)
	for low < high {
		mid := (low + high + 1) / 2
		f, e := ring.Bound(one(1<<order, 0, size), one(1<<order, 0, mid))
		if e != api.OK {
			t.Fatal(order, size, mid, e)
		}
		if f < 0.25 {
			low = mid
		} else {
			high = mid - 1
		}
	}
	return low
}

// holdRow tells where a row, or an error, is another one than is wanted.
func holdRow(t *testing.T, call func(a, b []int64) ([]int64, api.Errno), a, b, want []int64, err api.Errno) {
	t.Helper()
	if l, e := call(a, b); e != err || !slices.Equal(l, want) {
		if len(a)+len(b) > 16 {
			t.Errorf("rows of %d and %d numbers: %d numbers, another row, %v; wanted are %d, %v", len(a), len(b), len(l), e, len(want), err)
			return
		}
		t.Errorf("%v and %v: %v, %v; wanted are %v, %v", a, b, l, e, want, err)
	}
}

// holdTimes holds Times, either row first.
func holdTimes(t *testing.T, a, b, want []int64, err api.Errno) {
	t.Helper()
	holdRow(t, plain.Times, a, b, want, err)
	holdRow(t, plain.Times, b, a, want, err)
}

// holdSlowly holds Slowly, either row first.
func holdSlowly(t *testing.T, a, b, want []int64, err api.Errno) {
	t.Helper()
	holdRow(t, plain.Slowly, a, b, want, err)
	holdRow(t, plain.Slowly, b, a, want, err)
}

func holdSquare(t *testing.T, a, want []int64, err api.Errno) {
	t.Helper()
	holdRow(t, func(a, _ []int64) ([]int64, api.Errno) { return plain.Square(a) }, a, a, want, err)
}

// P12.1, P12.2: what the chapter and DOC.md write out.
func TestExamples(t *testing.T) {
	for _, x := range [][3][]int64{
		{row(1, 2, 3), row(4, 5), row(4, 13, 22, 15)},
		{nil, row(1), nil},
		{row(7), row(-8), row(-56)},
		{row(1 << 46), row(1), row(1 << 46)},
		{row(1 << 40), row(1 << 6), row(1 << 46)},
		{row(1, 2), row(3, 4), row(3, 10, 8)},
	} {
		holdTimes(t, x[0], x[1], x[2], api.OK)
		holdSlowly(t, x[0], x[1], x[2], api.OK)
	}
	holdSquare(t, row(1, -1), row(1, -2, 1), api.OK)
	holdTimes(t, row(1<<47), row(1), nil, api.ErrBound)
	holdTimes(t, row(1<<53), row(1), nil, api.ErrBound)
	holdTimes(t, row(1<<53+1), row(0), nil, api.ErrOver)
	holdSlowly(t, row(1<<62), row(2), nil, api.ErrOver)
	holdSlowly(t, row(1<<62, 1<<62), row(1, -1), row(1<<62, 0, -1<<62), api.OK)
	holdTimes(t, make([]int64, 16384), row(1), nil, api.ErrLong)
	holdSlowly(t, make([]int64, 16384), row(1), nil, api.ErrLong)
}

// P12.1, P12.2: of none and anything none, whatever the other row would be refused for but its length.
func TestNone(t *testing.T) {
	for _, none := range [][]int64{nil, {}, make([]int64, 0, 5)} {
		for _, b := range [][]int64{nil, {}, row(0), row(1, 2, 3), row(mostSize + 1), row(least, great), make([]int64, api.MaxRow), allOf(api.MaxRow, least)} {
			holdTimes(t, none, b, nil, api.OK)
			holdSlowly(t, none, b, nil, api.OK)
		}
		for _, n := range []int{api.MaxRow + 1, api.MaxRow + 2, 1 << 15, 100000} {
			holdTimes(t, none, make([]int64, n), nil, api.ErrLong)
			holdTimes(t, none, allOf(n, least), nil, api.ErrLong)
			holdSlowly(t, none, make([]int64, n), nil, api.ErrLong)
		}
		holdSquare(t, none, nil, api.OK)
	}
}

// P12.1: all rows of one number, and of one and two and two and two, that are small.
func TestSmall(t *testing.T) {
	for a := range int64(25) {
		for b := range int64(25) {
			want := row((a - 12) * (b - 12))
			holdTimes(t, row(a-12), row(b-12), want, api.OK)
			holdSlowly(t, row(a-12), row(b-12), want, api.OK)
		}
	}
	for i := range int64(5 * 5 * 5 * 5) {
		a, b, c, d := i%5-2, i/5%5-2, i/25%5-2, i/125-2
		holdTimes(t, row(a, b), row(c, d), row(a*c, a*d+b*c, b*d), api.OK)
		holdSlowly(t, row(a, b), row(c, d), row(a*c, a*d+b*c, b*d), api.OK)
		holdTimes(t, row(a), row(b, c, d), row(a*b, a*c, a*d), api.OK)
	}
}

// P12.1, P12.2: a product has all of its places, those of noughts too, at rows of all small lengths.
func TestLengths(t *testing.T) {
	t.Parallel()
	r := rand.New(rand.NewSource(1210))
	for n := 1; n <= 40; n++ {
		for m := 1; m <= 40; m++ {
			a, b := drawn(r, n, 999), drawn(r, m, 999)
			want, _ := exactly(a, b)
			holdRow(t, plain.Times, a, b, want, api.OK)
			holdRow(t, plain.Slowly, a, b, want, api.OK)
			holdRow(t, plain.Times, make([]int64, n), b, make([]int64, n+m-1), api.OK)
			holdRow(t, plain.Slowly, a, make([]int64, m), make([]int64, n+m-1), api.OK)
			// The last numbers stand at the last place.
			holdRow(t, plain.Times, one(n, n-1, -7), one(m, m-1, 9), one(n+m-1, n+m-2, -63), api.OK)
		}
	}
}

// P12.1, P12.2: together 16384 numbers are taken, 16385 are not, however they are shared out.
func TestTogether(t *testing.T) {
	t.Parallel()
	r := rand.New(rand.NewSource(1211))
	for _, n := range []int{1, 2, 8191, 8192, 16383} {
		a, b := drawn(r, n, 700), drawn(r, api.MaxRow-n, 900)
		holdRow(t, plain.Times, a, b, quickly(a, b), api.OK)
	}
	for _, n := range []int{1, 8192} {
		a, b := drawn(r, n, 1<<40), drawn(r, api.MaxRow-n, 1<<9)
		holdRow(t, plain.Slowly, a, b, quickly(a, b), api.OK)
	}
	for _, n := range []int{0, 1, 2, 100, 4096, 8192, 8193, 16383, 16384, 16385} {
		a, b := make([]int64, n), make([]int64, api.MaxRow+1-n)
		holdTimes(t, a, b, nil, api.ErrLong)
		holdSlowly(t, a, b, nil, api.ErrLong)
	}
	for _, n := range []int{16384, 16385, 32768, 1 << 20} {
		a := make([]int64, n)
		holdTimes(t, a, row(3), nil, api.ErrLong)
		holdSlowly(t, a, row(3), nil, api.ErrLong)
		holdTimes(t, a, a, nil, api.ErrLong)
		holdSlowly(t, a, a, nil, api.ErrLong)
	}
}

// P12.1: a product of just 2^k numbers is padded to the order k, one of one more to the next: each goes by the bound of its own order.
func TestPaddedToTheLeastOrder(t *testing.T) {
	t.Parallel()
	for order := range api.MaxOrder + 1 {
		most := mostBeside(t, order, 1)
		fewest := 1<<order/2 + 1 // numbers of a product of that order; at the order 0 it is the only one
		last := min(1<<order, api.MaxRow-1)
		for _, places := range []int{fewest, last} {
			for _, n := range []int{1, (places + 1) / 2} {
				a, b := one(n, n-1, -1), one(places+1-n, 0, most)
				holdTimes(t, a, b, one(places, n-1, -most), api.OK)
				b[0]++
				holdTimes(t, a, b, nil, api.ErrBound)
			}
		}
		if order < api.MaxOrder {
			holdTimes(t, one(1<<order, 0, most), row(1), one(1<<order, 0, most), api.OK)
			holdTimes(t, one(1<<order+1, 0, most), row(1), nil, api.ErrBound)
			holdTimes(t, one(1<<order, 0, most), row(1, 0), nil, api.ErrBound)
		}
	}
}

// P12.1: by hand, the greatest size that goes through beside a size of 1, of even orders: below 2^51 / (16 (k + 1) 2^k R).
func TestGreatestByHand(t *testing.T) {
	t.Parallel()
	for _, x := range []struct {
		places int
		most   int64
	}{{1, 1<<47 - 1}, {3, 5864062014805}, {4, 5864062014805}, {9, 439804651110}, {16, 439804651110}, {1024, 390451572}, {8193, 4473924}, {16383, 4473924}} {
		a := one(x.places, x.places-1, x.most)
		holdTimes(t, a, row(-1), one(x.places, x.places-1, -x.most), api.OK)
		a[x.places-1]++
		holdTimes(t, a, row(-1), nil, api.ErrBound)
	}
}

// P12.1: the bound nearest to 1/4 on either side: 2^47 - 1 is 10610063 times 13264529.
func TestAtAQuarter(t *testing.T) {
	for _, sign := range row(1, -1) {
		holdTimes(t, row(10610063), row(sign*13264529), row(sign*(1<<47-1)), api.OK)
		holdTimes(t, row(1<<47-1), row(sign), row(sign*(1<<47-1)), api.OK)
		for power := range 48 {
			holdTimes(t, row(1<<power), row(sign<<(47-power)), nil, api.ErrBound)
			if power < 47 {
				holdTimes(t, row(1<<power), row(sign<<(46-power)), row(sign<<46), api.OK)
			}
		}
	}
}

// P12.1: a size of 2^53 is taken, one above it is not, at whatever place of whichever row. Slowly takes all of them.
func TestTooGreat(t *testing.T) {
	t.Parallel()
	for _, n := range []int{1, 2, 3, 30, 8192} {
		zeros := make([]int64, n)
		for _, place := range []int{0, n / 2, n - 1} {
			for _, number := range row(mostSize+1, -mostSize-1, mostSize+2, 1<<62, great, least, least+1) {
				a := one(n, place, number)
				holdTimes(t, a, zeros, nil, api.ErrOver)
				holdTimes(t, a, row(0), nil, api.ErrOver)
				holdSquare(t, a, nil, api.ErrOver)
			}
			for _, number := range row(mostSize, -mostSize, mostSize-1) {
				a := one(n, place, number)
				holdRow(t, plain.Times, a, row(0), zeros, api.OK)
				holdTimes(t, a, row(1), nil, api.ErrBound)
				holdSquare(t, a, nil, api.ErrBound)
			}
		}
	}
	holdSlowly(t, row(mostSize+1), row(1), row(mostSize+1), api.OK)
	holdSlowly(t, row(0), row(least), row(0), api.OK)
	holdSlowly(t, row(1), row(great, least), row(great, least), api.OK)
}

// P12.1, P12.2: rows that are too long count ahead of numbers that are too great, these ahead of a bound that is.
func TestErrorOrder(t *testing.T) {
	long := one(api.MaxRow, api.MaxRow-1, least)
	holdTimes(t, long, row(1), nil, api.ErrLong)
	holdTimes(t, make([]int64, api.MaxRow), row(mostSize+1), nil, api.ErrLong)
	holdTimes(t, allOf(api.MaxRow, mostSize), row(mostSize), nil, api.ErrLong)
	holdSquare(t, allOf(8193, great), nil, api.ErrLong)
	holdSlowly(t, long, row(-1), nil, api.ErrLong)
	holdSlowly(t, allOf(api.MaxRow, great), row(2), nil, api.ErrLong)
	for _, n := range []int{1, 2, 3, 50} {
		for _, number := range row(mostSize+1, -mostSize-1, least) {
			holdTimes(t, one(n, n-1, number), allOf(n, mostSize), nil, api.ErrOver)
			holdTimes(t, allOf(n, number), row(mostSize), nil, api.ErrOver)
		}
		holdTimes(t, allOf(n, mostSize), allOf(n, -mostSize), nil, api.ErrBound)
	}
}

// sharpRows are rows of n numbers of sizes of at most most, hard on roundings; one of them is of one sign alone, so that its sums are as great as can be.
func sharpRows(r *rand.Rand, n int, most int64) [][]int64 {
	steps := allOf(n, most)
	for i := range steps {
		if i%2 == 1 {
			steps[i] = -most
		}
	}
	return [][]int64{
		drawn(r, n, most),
		allOf(n, most),
		strewn(r, n, most, -most),
		steps,
		strewn(r, n, most, most-1, 0),
		one(n, r.Intn(n), -most),
	}
}

// P12.1, P12.3: rows of like sizes and of very unlike ones, as great as the bound lets through, are told exactly; with a size greater by one they are refused.
func TestAtTheBound(t *testing.T) {
	t.Parallel()
	for order := range api.MaxOrder + 1 {
		r := rand.New(rand.NewSource(int64(order) + 1212))
		places := min(1<<order, api.MaxRow-1)
		like := int64(math.Sqrt(float64(mostBeside(t, order, 1))))
		for i, size := range row(1, like, 3, mostBeside(t, order, 1)) {
			other := mostBeside(t, order, size)
			n := 1 + (places-1)*(i+1)/6
			first, second := sharpRows(r, n, size), sharpRows(r, places+1-n, other)
			for j := range first {
				if order > 12 && (i > 1 || j > 2) {
					continue
				}
				a, b := first[j], second[(j*5+i)%len(second)]
				holdRow(t, plain.Times, a, b, quickly(a, b), api.OK)
			}
			b := one(places+1-n, i%(places+1-n), other+1)
			holdTimes(t, first[5], b, nil, api.ErrBound)
		}
	}
}

// P12.1: rows of all lengths and sizes: the product just where the bound of the padded rows is below 1/4.
func TestTimesDrawn(t *testing.T) {
	t.Parallel()
	r := rand.New(rand.NewSource(1213))
	told := [2]int{}
	for i := range 4000 {
		most := 30
		if i%100 == 0 {
			most = 300
		}
		a, b := drawn(r, 1+r.Intn(most), r.Int63n(1<<r.Intn(40))+1), drawn(r, 1+r.Intn(most), r.Int63n(1<<r.Intn(40))+1)
		if bound(t, a, b) >= 0.25 {
			holdRow(t, plain.Times, a, b, nil, api.ErrBound)
			told[0]++
			continue
		}
		want, ok := exactly(a, b)
		if !ok {
			t.Fatal("no int64", len(a), len(b))
		}
		holdRow(t, plain.Times, a, b, want, api.OK)
		told[1]++
	}
	if min(told[0], told[1]) < 600 {
		t.Errorf("refused and told: %v", told)
	}
}

// P12.1: Square is as Times of the row and itself, its refusals too.
func TestSquare(t *testing.T) {
	t.Parallel()
	r := rand.New(rand.NewSource(1214))
	told := [2]int{}
	for range 2000 {
		a := drawn(r, 1+r.Intn(40), r.Int63n(1<<(1+r.Intn(26)))+1)
		if bound(t, a, a) >= 0.25 {
			holdSquare(t, a, nil, api.ErrBound)
			told[0]++
			continue
		}
		holdSquare(t, a, quickly(a, a), api.OK)
		told[1]++
	}
	if min(told[0], told[1]) < 300 {
		t.Errorf("refused and told: %v", told)
	}
	for _, n := range []int{1, 2, 3, 512, 513, 8191, 8192} {
		a := drawn(r, n, 500)
		holdSquare(t, a, quickly(a, a), api.OK)
	}
	for _, n := range []int{8193, 8194, 16384, 16385, 40000} {
		holdSquare(t, make([]int64, n), nil, api.ErrLong)
	}
	// 11863283 is the greatest whole number whose square is below 2^47.
	holdSquare(t, row(-11863283), row(11863283*11863283), api.OK)
	holdSquare(t, row(11863284), nil, api.ErrBound)
	holdSquare(t, row(0, 0, 0), make([]int64, 5), api.OK)
}

// P12.2: the product wherever its numbers are int64, ErrOver else.
func TestSlowlyDrawn(t *testing.T) {
	r := rand.New(rand.NewSource(1220))
	told := [2]int{}
	hold := func(a, b []int64) {
		t.Helper()
		want, ok := exactly(a, b)
		if !ok {
			holdRow(t, plain.Slowly, a, b, nil, api.ErrOver)
			told[0]++
			return
		}
		holdRow(t, plain.Slowly, a, b, want, api.OK)
		told[1]++
	}
	for range 2000 {
		n, m := 1+r.Intn(12), 1+r.Intn(12)
		hold(drawn(r, n, great>>r.Intn(62)), drawn(r, m, great>>r.Intn(62)))
		hold(strewn(r, n, great, -great, least, 0), strewn(r, m, 0, 0, 0, 1, -1))
		hold(strewn(r, n, great, -great, least, least+1, 1), strewn(r, m, great, -great, least))
		hold(drawn(r, n, 1<<40), strewn(r, m, 1<<21, -1<<21))
	}
	if min(told[0], told[1]) < 2000 {
		t.Errorf("refused and told: %v", told)
	}
}

// P12.2: both ends of int64, and one step past them.
func TestSlowlyAtTheEnds(t *testing.T) {
	for _, x := range []struct {
		a, b, want []int64
	}{
		{row(great), row(1), row(great)},
		{row(great), row(-1), row(-great)},
		{row(least), row(1), row(least)},
		{row(least), row(-1), nil},
		{row(least), row(0), row(0)},
		{row(1 << 32), row(-1 << 31), row(least)},
		{row(1 << 32), row(1 << 31), nil},
		{row(1 << 32), row(1 << 32), nil},
		{row(least), row(2), nil},
		{row(least), row(least), nil},
		{row(great), row(great), nil},
		{row(great), row(least), nil},
		{row(1<<62, 1<<62), row(1, 1), nil},
		{row(1<<62, 1<<62-1), row(1, 1), row(1<<62, great, 1<<62-1)},
		{row(-1<<62, -1<<62), row(1, 1), row(-1<<62, least, -1<<62)},
		{row(-1<<62, -1<<62-1), row(1, 1), nil},
		// Only the first, the last, or one between, is past the end.
		{row(great), row(2, 1, 1, 1, 1), nil},
		{row(great), row(1, 1, 1, 1, 2), nil},
		{row(great), row(1, 1, -2, 1, 1), nil},
		{row(1 << 32), row(1, 1<<32, 1), nil},
		{row(great), row(1, 1, 0, -1, 1), row(great, great, 0, -great, great)},
		{row(least, 0, least), row(1, 1), row(least, least, least, least)},
		{row(least, 0, least), row(1, 1, 1), nil},
		{row(least, 0, great), row(1, 1, 1), row(least, least, -1, great, great)},
	} {
		err := api.OK
		if x.want == nil {
			err = api.ErrOver
		}
		holdSlowly(t, x.a, x.b, x.want, err)
	}
}

// powers is the row of the coefficients of (1 + c x^step)^power.
func powers(power, step int, c int64) []int64 {
	l := make([]int64, power*step+1)
	for i := range power + 1 {
		n := new(big.Int).Binomial(int64(power), int64(i)).Int64()
		if c < 0 && i%2 == 1 {
			n = -n
		}
		l[i*step] = n
	}
	return l
}

// P12.2: sums that go far beyond int64 on the way, and come back.
func TestSlowlyComesBack(t *testing.T) {
	// Whichever end is added first, a sum on the way is 2^63.
	holdSlowly(t, allOf(6, 1<<62), row(-1, -1, 1, 1, -1, -1),
		row(-1<<62, least, -1<<62, 0, -1<<62, least, -1<<62, 0, -1<<62, least, -1<<62), api.OK)
	// (1 + x)^n (1 - x)^n is (1 - x x)^n; at 66, whose numbers are the greatest that are int64, single products are above 2^125.
	for _, power := range []int{2, 31, 33, 34, 40, 60, 65, 66} {
		holdSlowly(t, powers(power, 1, 1), powers(power, 1, -1), powers(power, 2, -1), api.OK)
	}
	holdSlowly(t, powers(40, 1, 1), powers(40, 1, 1), nil, api.ErrOver)
}

// spoil overwrites all that a list has, its spare room too.
func spoil(l []int64) {
	l = l[:cap(l)]
	for i := range l {
		l[i] = 7
	}
}

// R3: rows are only read, their spare room too; answers are new memory.
func TestMemory(t *testing.T) {
	r := rand.New(rand.NewSource(3))
	for _, n := range []int{1, 2, 3, 4, 5, 40} {
		a, b := drawn(r, 4*n, 99), drawn(r, 4*n, 99)
		aKeep, bKeep := slices.Clone(a), slices.Clone(b)
		untouched := func() {
			t.Helper()
			if !slices.Equal(a, aKeep) || !slices.Equal(b, bKeep) {
				t.Fatalf("%d numbers: what was handed in has changed", n)
			}
		}
		for _, call := range []func(a, b []int64) ([]int64, api.Errno){
			plain.Times, plain.Slowly,
			func(a, _ []int64) ([]int64, api.Errno) { return plain.Square(a) },
		} {
			for _, other := range [][]int64{b[:n], b[:1], row(1), row(0)} {
				first, _ := call(a[:n], other)
				second, _ := call(a[:n], other)
				keep := slices.Clone(first)
				spoil(second)
				if !slices.Equal(first, keep) {
					t.Errorf("%d numbers: two answers share memory", n)
				}
				spoil(first)
				untouched()
				holdRow(t, call, a[:n], other, keep, api.OK)
			}
			call(a[:n], row(least, great))
			call(row(great, 2), b[:n])
			call(a[:n], make([]int64, api.MaxRow))
			call(a[:n], nil)
			untouched()
		}
	}
}

// R3: both rows may be one, or lie over each other.
func TestOneRowTwice(t *testing.T) {
	l := row(1, -2, 3, 5, 7, 0, -1, 1, 4, 9)
	keep := slices.Clone(l)
	for _, p := range [][2][]int64{{l, l}, {l[:8], l[:8]}, {l[:8], l[2:]}, {l[1:9], l[:3]}, {l[:4], l[4:8]}, {l[:1], l[:1]}} {
		want := quickly(p[0], p[1])
		holdTimes(t, p[0], p[1], want, api.OK)
		holdSlowly(t, p[0], p[1], want, api.OK)
	}
	if !slices.Equal(l, keep) {
		t.Error(l)
	}
}

// R4: calls side by side, of one row, tell what they tell one by one.
func TestSideBySide(t *testing.T) {
	r := rand.New(rand.NewSource(4))
	a, b := drawn(r, 70, 1000), drawn(r, 50, 1000)
	want, square := quickly(a, b), quickly(a, a)
	var calls sync.WaitGroup
	for i := range 8 {
		calls.Go(func() {
			l, _ := plain.Times(a, b)
			m, _ := plain.Slowly(a, b)
			s, _ := plain.Square(a)
			if !slices.Equal(l, want) || !slices.Equal(m, want) || !slices.Equal(s, square) {
				t.Errorf("call %d tells another row", i)
			}
		})
	}
	calls.Wait()
}
