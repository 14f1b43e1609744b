package nat

import (
	"math/bits"
	"slices"
	"strings"
)

// row is a number's digits to the base 2^64, the lowest first: the other way round than its bytes, so that it grows at its end.
type row []uint64

// room is memory that a call has at hand: so most numbers need none from the heap.
type room [16]uint64

// read appends a number's digits to a row, without a 0 at the top, so that their count tells how great it is.
func read(to row, a string) row {
	a = bare(a)
	to = slices.Grow(to, (len(a)+7)/8)
	for len(a) >= 8 {
		s := a[len(a)-8:]
		a = a[:len(a)-8]
		// Written out, because the compiler makes one load of it.
		to = append(to, uint64(s[7])|uint64(s[6])<<8|uint64(s[5])<<16|uint64(s[4])<<24|
			uint64(s[3])<<32|uint64(s[2])<<40|uint64(s[1])<<48|uint64(s[0])<<56)
	}
	if a == "" {
		return to
	}
	top := uint64(0)
	for i := range len(a) {
		top = top<<8 | uint64(a[i])
	}
	return append(to, top)
}

func eight(n uint64) [8]byte {
	return [8]byte{byte(n >> 56), byte(n >> 48), byte(n >> 40), byte(n >> 32), byte(n >> 24), byte(n >> 16), byte(n >> 8), byte(n)}
}

// text answers the one form, of digits that may have noughts at the top.
func (d row) text() string {
	for len(d) > 0 && d[len(d)-1] == 0 {
		d = d[:len(d)-1]
	}
	if len(d) == 0 {
		return ""
	}
	if len(d) == 1 { // most numbers are such, and the shortest texts need no memory there
		return Of(d[0])
	}
	skip := bits.LeadingZeros64(d[len(d)-1]) / 8
	var s strings.Builder
	s.Grow(8*len(d) - skip)
	for _, n := range slices.Backward(d) {
		b := eight(n)
		s.Write(b[skip:])
		skip = 0
	}
	return s.String()
}

// plus answers the sum, in d's memory as far as that reaches: so a long sum is made in one place.
func (d row) plus(x row) row {
	for len(d) < len(x) {
		d = append(d, 0)
	}
	if d.plusTimes(x, 1) != 0 {
		d = append(d, 1)
	}
	return d
}

// plusTimes adds n times x to d, which must have as many digits at least, and answers what goes beyond d's top.
func (d row) plusTimes(x row, n uint64) uint64 {
	over := uint64(0)
	for i, m := range x {
		high, low := bits.Mul64(m, n)
		low, more := bits.Add64(low, over, 0)
		high += more
		d[i], more = bits.Add64(d[i], low, 0)
		over = high + more
	}
	for i := len(x); over != 0 && i < len(d); i++ {
		d[i], over = bits.Add64(d[i], over, 0)
	}
	return over
}

// minusTimes takes n times x from d, which must have as many digits at least, and answers what is wanting at d's top.
func (d row) minusTimes(x row, n uint64) uint64 {
	lack := uint64(0)
	for i, m := range x {
		high, low := bits.Mul64(m, n)
		low, more := bits.Add64(low, lack, 0)
		high += more
		d[i], more = bits.Sub64(d[i], low, 0)
		lack = high + more
	}
	for i := len(x); lack != 0 && i < len(d); i++ {
		d[i], lack = bits.Sub64(d[i], lack, 0)
	}
	return lack
}

// up answers d times 2^n, n below 64. It always has one digit more than d, which a division needs.
func (d row) up(n uint) row {
	out := make(row, len(d)+1)
	copy(out, d)
	for i := len(d); i > 0; i-- {
		out[i] = out[i]<<n | out[i-1]>>(64-n)
	}
	out[0] <<= n
	return out
}

// down divides d itself by 2^n, n below 64: it is for digits that nobody else has.
func (d row) down(n uint) {
	for i := range d {
		d[i] >>= n
		if i+1 < len(d) {
			d[i] |= d[i+1] << (64 - n)
		}
	}
}
