package base

import (
	"math"
	"math/bits"

	"rosette/api"
	"rosette/divide"
	"rosette/limb"
	"rosette/times"
)

// The functions of this file reckon with right whole numbers from 0 on.

// A ladder is what numbers are parted by into halves of their digits, and put together. A piece is as many digits as every limb has room for: so base to the power of a piece is below 2^64, and at least 2^58, as it is above 2^64 over base.
type ladder struct {
	base   int
	piece  int       // how many digits
	powers []api.Int // base to the power of one piece, of two, of four, and so on
}

// sizeText is the text of a number.
func sizeText(x api.Int, base int) string {
	piece, power := pieceOf(base)
	length, _ := limb.Bits(x)
	each := bits.Len64(power) - 1
	// So many pieces are enough, as each has room for these bits. None of the powers is too long: fewer than 262144 / 58 + 1 pieces are asked for, so that the greatest power is that of 4096 of them at most.
	l, _ := newLadder(base, (length+each-1)/each)
	text := make([]byte, piece<<len(l.powers))
	l.write(text, x, len(l.powers))
	for len(text) > 1 && text[0] == alphabet[0] {
		text = text[1:]
	}
	return string(text)
}

// sizeOf is the number that a row of digits says, the first of which is not 0, unless it is alone.
func sizeOf(row []byte, base int) (api.Int, api.Errno) {
	piece, _ := pieceOf(base)
	// There are more digits than any of the powers has noughts: so where one of these is too long, the number is.
	l, e := newLadder(base, (len(row)+piece-1)/piece)
	if e != api.OK {
		return api.Int{}, e
	}
	return l.read(row, len(l.powers))
}

// pieceOf is how many digits of a base every limb has room for, and base to the power of that.
func pieceOf(base int) (int, uint64) {
	digits, power := 0, uint64(1)
	for power <= math.MaxUint64/uint64(base) {
		digits, power = digits+1, power*uint64(base)
	}
	return digits, power
}

// newLadder is the ladder for numbers of so many pieces; its powers are of fewer.
func newLadder(base, pieces int) (ladder, api.Errno) {
	piece, first := pieceOf(base)
	l := ladder{base: base, piece: piece}
	power, e := ofLimb(first), api.OK
	for reached := 1; reached < pieces; reached *= 2 {
		if reached > 1 {
			power, e = times.Square(power)
		}
		if e != api.OK {
			return ladder{}, e
		}
		l.powers = append(l.powers, power)
	}
	return l, api.OK
}

// write fills a text, which has room for the pieces that so many of the powers part a number into, with its digits and noughts ahead.
func (l ladder) write(text []byte, x api.Int, rungs int) {
	if rungs == 0 || len(x.Mag) == 0 {
		l.writePiece(text, x)
		return
	}
	// No power is 0.
	high, low, _ := divide.Trunc(x, l.powers[rungs-1])
	half := len(text) / 2
	l.write(text[:half], high, rungs-1)
	l.write(text[half:], low, rungs-1)
}

// writePiece fills a text with the digits of a number of one limb or none, and noughts ahead.
func (l ladder) writePiece(text []byte, x api.Int) {
	left := limbOf(x)
	for i := range len(text) {
		text[len(text)-1-i] = alphabet[left%uint64(l.base)]
		left /= uint64(l.base)
	}
}

// read is the number that a row of digits says, which has no more pieces than so many of the powers part one into.
func (l ladder) read(row []byte, rungs int) (api.Int, api.Errno) {
	if rungs == 0 {
		return l.readPiece(row), api.OK
	}
	half := len(row) - l.piece<<(rungs-1)
	if half <= 0 {
		return l.read(row, rungs-1)
	}
	// Both halves are below the power, so that neither is too long. Where what is put together of them is, the number is.
	power := l.powers[rungs-1]
	high, _ := l.read(row[:half], rungs-1)
	low, _ := l.read(row[half:], rungs-1)
	high, e := times.Mul(high, power)
	if e != api.OK {
		return api.Int{}, e
	}
	return limb.Add(high, low)
}

// readPiece is the number that a row of digits of one piece or less says.
func (l ladder) readPiece(row []byte) api.Int {
	size := uint64(0)
	for _, digit := range row {
		size = size*uint64(l.base) + uint64(digit)
	}
	return ofLimb(size)
}

// ofLimb is the whole number of one limb.
func ofLimb(size uint64) api.Int {
	if size == 0 {
		return api.Int{}
	}
	return api.Int{Mag: []uint64{size}}
}

// limbOf is the limb of a number of one limb or none.
func limbOf(x api.Int) uint64 {
	if len(x.Mag) == 0 {
		return 0
	}
	return x.Mag[0]
}
