package base_test

import (
	"math/rand"
	"slices"
	"strings"
	"sync"
	"testing"
	"unicode/utf8"

	"rosette/api"
	"rosette/base"
)

// digitAt is what a byte says in a base, and whether it says anything.
func digitAt(c byte, b int) (int, bool) {
	for n := range b {
		if c == letters[n] {
			return n, true
		}
	}
	return 0, false
}

// wrongAt is the place of the first byte that can't stand in a number's text, or the length of the beginning of one, and whether there is either.
func wrongAt(s string, b int) (int, bool) {
	const (
		start = iota
		signed
		nought
		digits
	)
	state := start
	for at := range len(s) {
		n, digit := digitAt(s[at], b)
		switch {
		case state == start && s[at] == '-':
			state = signed
		case state == start && digit && n == 0:
			state = nought
		case state != nought && digit && (n > 0 || state == digits):
			state = digits
		default:
			return at, true
		}
	}
	return len(s), state == start || state == signed
}

// holdWrong holds Parse against ErrText at a place.
func holdWrong(t *testing.T, s string, b, at int) {
	t.Helper()
	holdParse(t, s, b, api.Int{}, api.Fault{Err: api.ErrText, At: at})
}

// holdAny holds Parse of any short text: refused where no number's text has it, read and told again elsewhere.
func holdAny(t *testing.T, s string, b int) {
	t.Helper()
	if at, wrong := wrongAt(s, b); wrong {
		holdWrong(t, s, b, at)
		return
	}
	x, f := base.Parse(s, b)
	if f != (api.Fault{}) {
		t.Errorf("Parse(%s, %d): %v", brief(s), b, f)
	}
	if told := valueOf(x).Text(b); told != s {
		t.Errorf("Parse(%s, %d): %s", brief(s), b, told)
	}
}

// P19.2, P8: what is ahead of a number, behind it, or in it, in all bases.
func TestWrongTexts(t *testing.T) {
	for _, b := range bases() {
		for s, at := range map[string]int{
			"": 0, "-": 1, "--": 1, "--1": 1, "-0": 1, "-00": 1, "-01": 1, "00": 1, "01": 1, "0-": 1, "0 ": 1, "+": 0, "+1": 0, "+0": 0, "-+1": 1, "1+": 1, "1-": 1, "1-1": 1, "-1-": 2, "-1-1": 2,
			" ": 0, " 1": 0, "1 ": 1, "-1 ": 2, "- 1": 1, " -1": 0, "1 1": 1, "\t1": 0, "1\n": 1, "1\r\n": 1, "\x001": 0, "1\x00": 1, "1.": 1, "1.0": 1, ".1": 0, "1,000": 1, "1_0": 1, "_1": 0, "0x1": 1, "0b1": 1, "-0x1": 1,
			"1/": 1, "1:": 1, "1`": 1, "1{": 1, "1@": 1, "1[": 1, "/": 0, ":": 0, "`": 0, "{": 0, "1~": 1, "1\x7f": 1, "A": 0, "Z": 0, "1A": 1, "1Z": 1, "-A": 1, "-1F": 2, "10A": 2,
		} {
			holdWrong(t, s, b, at)
		}
	}
}

// P19.2: a digit that the base has not, alone, behind others, behind a -, ahead of what is wrong by itself.
func TestDigitsTooGreat(t *testing.T) {
	for _, b := range bases() {
		for n := b; n < 36; n++ {
			d := letters[n : n+1]
			holdWrong(t, d, b, 0)
			holdWrong(t, "-"+d, b, 1)
			holdWrong(t, "1"+d, b, 1)
			holdWrong(t, "-1"+d, b, 2)
			holdWrong(t, "0"+d, b, 1)
			holdWrong(t, "10110"+d+"1", b, 5)
			holdWrong(t, "101"+d+" ", b, 3)
			holdWrong(t, strings.ToUpper(d), b, 0)
		}
	}
}

// P19.2: every byte there is, at each place of a text, in all bases.
func TestEveryByte(t *testing.T) {
	t.Parallel()
	for _, b := range bases() {
		for c := range 256 {
			one := string([]byte{byte(c)})
			for _, s := range []string{one, "-" + one, "1" + one, "0" + one, "-1" + one, "10" + one + "1", one + "1", "-" + one + "1", one + one, "1" + one + one, strings.Repeat("1", 70) + one + "0"} {
				holdAny(t, s, b)
			}
		}
	}
}

// P19.2: all texts of up to five of the bytes that can stand, and of some that can't.
func TestEveryShortText(t *testing.T) {
	t.Parallel()
	for _, b := range []int{2, 3, 10, 36} {
		l := []string{""}
		for range 5 {
			next := []string{}
			for _, s := range l {
				holdAny(t, s, b)
				for _, c := range "-01" + letters[b-1:b] + "+ A" {
					next = append(next, s+string(c))
				}
			}
			l = next
		}
	}
}

// P19.2: bytes above 127: runes whole, their beginnings, what follows alone, what is no rune; the place is that of the first of their bytes.
func TestBytesAbove127(t *testing.T) {
	for _, r := range []string{"é", "\u0080", "ß", "\u07ff", "\u0800", "１", "０", "ａ", "٣", "−", "‐", "\u00a0", "\u2003", "\ufeff", "\ufffd", "\uffff", "𝟏", "\U0010ffff", "\xc2", "\xe2\x88", "\xf0\x9d\x9f", "\x80", "\xbf", "\xff", "\xfe", "\xc0\xb1", "\xe0\x80\xb1", "\xed\xa0\x80", "\xf4\x90\x80\x80"} {
		for _, b := range []int{2, 10, 16, 36} {
			holdWrong(t, r, b, 0)
			holdWrong(t, r+"1", b, 0)
			holdWrong(t, "-"+r, b, 1)
			holdWrong(t, "1"+r, b, 1)
			holdWrong(t, "0"+r, b, 1)
			holdWrong(t, "-1"+r+"1", b, 2)
			holdWrong(t, strings.Repeat("10", 50)+r+r, b, 100)
			holdWrong(t, "1 "+r, b, 1)
			holdWrong(t, r+" ", b, 0)
		}
	}
	for r := rune(128); r < 70000; r++ {
		if s := string(r); utf8.ValidRune(r) {
			holdWrong(t, "1"+s, 36, 1)
		}
	}
}

// P19.2: drawn texts of bytes that can stand and some that can't.
func TestDrawnTexts(t *testing.T) {
	t.Parallel()
	r := rand.New(rand.NewSource(194))
	for range 100000 {
		b := 2 + r.Intn(35)
		s := make([]byte, r.Intn(40))
		for i := range s {
			s[i] = letters[r.Intn(b)]
			if r.Intn(30) == 0 {
				s[i] = []byte{'-', '0', ' ', 'A', 'z', 0x80, 0xc3, byte(r.Intn(256))}[r.Intn(8)]
			}
		}
		holdAny(t, string(s), b)
		holdAny(t, "-"+string(s), b)
	}
}

// P19.2: more than 2^20 bytes are ErrLong ahead of what stands in them; with 2^20 bytes that counts, and ahead of how many limbs the number has.
func TestManyBytes(t *testing.T) {
	t.Parallel()
	for _, b := range []int{2, 10, 16, 35, 36} {
		for _, c := range []struct {
			s  string
			at int
		}{
			{strings.Repeat(" ", 1<<20), 0}, {strings.Repeat("0", 1<<20), 1}, {"-" + strings.Repeat("0", 1<<20-1), 1}, {strings.Repeat("-", 1<<20), 1}, {strings.Repeat("\x80", 1<<20), 0}, {strings.Repeat("é", 1<<19), 0},
			{strings.Repeat("1", 1<<20-1) + " ", 1<<20 - 1}, {"-" + strings.Repeat("1", 1<<20-2) + "-", 1<<20 - 1}, {strings.Repeat("1", 1<<20-2) + "é", 1<<20 - 2}, {strings.Repeat("1", 500000) + "A" + strings.Repeat("1", 1<<20-500001), 500000},
		} {
			holdWrong(t, c.s, b, c.at)
			for _, more := range []string{"1", "0", " ", "\xff"} {
				holdParse(t, c.s+more, b, api.Int{}, api.Fault{Err: api.ErrLong})
			}
		}
		holdParse(t, strings.Repeat("1", 1<<20), b, api.Int{}, api.Fault{Err: api.ErrLong})
		holdParse(t, strings.Repeat("1", 1<<20+1), b, api.Int{}, api.Fault{Err: api.ErrLong})
		holdParse(t, strings.Repeat(" ", 1<<22), b, api.Int{}, api.Fault{Err: api.ErrLong})
	}
}

// P19.2: what can't stand counts ahead of a number that is too long.
func TestTextAheadOfLimbs(t *testing.T) {
	for _, b := range []int{2, 10, 16, 35, 36} {
		long := strings.Repeat("1", mostDigits(b)+1)
		holdParse(t, long, b, api.Int{}, api.Fault{Err: api.ErrLong})
		holdWrong(t, long+" ", b, len(long))
		holdWrong(t, "-"+long+"A", b, len(long)+1)
		holdWrong(t, "-0"+long, b, 1)
		holdWrong(t, "0"+long, b, 1)
	}
}

// P19.1 to P19.3: ErrArg for a base that is none, ahead of all else, and for what is not right; all else is 0.
func TestRefused(t *testing.T) {
	for _, b := range noBases() {
		for _, x := range append(edges(), api.Int{}, full(api.MaxLimbs)) {
			holdPrint(t, x, b, "", api.ErrArg)
			holdCount(t, about(x), b, 0, api.ErrArg)
		}
		for _, s := range []string{"", "0", "1", "-1", "-", "00", " ", "z", strings.Repeat("1", 1<<20), strings.Repeat("1", 1<<20+1), strings.Repeat(" ", 1<<20+1)} {
			holdParse(t, s, b, api.Int{}, api.Fault{Err: api.ErrArg})
		}
	}
	for _, x := range wrongs() {
		for _, b := range append(bases(), noBases()...) {
			holdPrint(t, x, b, "", api.ErrArg)
			holdCount(t, x, b, 0, api.ErrArg)
		}
	}
}

// spoil overwrites all that a list has, its spare room too.
func spoil(l []uint64) {
	l = l[:cap(l)]
	for i := range l {
		l[i] = 7
	}
}

// R3: numbers are only read, their spare room too.
func TestOnlyRead(t *testing.T) {
	r := rand.New(rand.NewSource(195))
	for _, n := range []int{0, 1, 2, 5, 100, 1000} {
		for _, b := range someBases() {
			x := drawn(r, n)
			room := append(slices.Clone(x.Mag), 11, 12, 13)
			x.Mag = room[:n]
			kept := slices.Clone(room)
			want := valueOf(x).Text(b)
			for range 2 {
				holdPrint(t, x, b, want, api.OK)
				holdCount(t, x, b, len(strings.TrimPrefix(want, "-")), api.OK)
			}
			if !slices.Equal(room, kept) {
				t.Fatalf("base %d, %d limbs: what was handed in has changed", b, n)
			}
			text, _ := base.Print(x, b)
			spoil(x.Mag)
			if text != want {
				t.Errorf("base %d, %d limbs: the text has changed", b, n)
			}
		}
	}
}

// R3: what is read is the caller's own, spare room too.
func TestOwn(t *testing.T) {
	r := rand.New(rand.NewSource(196))
	for _, n := range []int{0, 1, 2, 5, 100, 1000} {
		for _, b := range someBases() {
			x := drawn(r, n)
			text := valueOf(x).Text(b)
			first, _ := base.Parse(text, b)
			second, _ := base.Parse(text, b)
			spoil(first.Mag)
			if !same(second, x) {
				t.Errorf("base %d, %d limbs: two answers share memory", b, n)
			}
			holdText(t, x, b, text)
		}
	}
}

// R4: calls side by side, of the same number, tell what they tell one by one.
func TestSideBySide(t *testing.T) {
	x := drawn(rand.New(rand.NewSource(197)), 300)
	var group sync.WaitGroup
	for _, b := range someBases() {
		group.Go(func() { against(t, x, b) })
		group.Go(func() { holdWrong(t, valueOf(x).Text(b)+"Z", b, len(valueOf(x).Text(b))) })
	}
	group.Wait()
}
