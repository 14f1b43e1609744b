package nat

import (
	"math"
	"math/bits"
)

// division is a number that is divided: what is left of it, and what it is divided by, which has a 1 as its highest digit's highest bit. So a guess by the highest digits alone is at most two too great.
type division struct {
	row
	by row
}

// divide answers quotient and rest of a by b, which has no more digits than a, and no 0 as the highest one.
func divide(a, b row) (quo, rest row) {
	shift := uint(bits.LeadingZeros64(b[len(b)-1]))
	x := division{row: a.up(shift), by: b.up(shift)[:len(b)]}
	quo = make(row, len(a)-len(b)+1)
	for at := len(quo) - 1; at >= 0; at-- {
		quo[at] = x.from(at).digit()
	}
	x.down(shift)
	return quo, x.row
}

// from answers the part that the quotient's digit at that place is taken from; it shares its digits with x.
func (x division) from(at int) division {
	return division{row: x.row[at : at+len(x.by)+1], by: x.by}
}

// digit takes off the divisor as often as it goes, below 2^64 times, and answers how often.
func (x division) digit() uint64 {
	times := x.guess()
	lack := x.minusTimes(x.by, times)
	for lack != 0 {
		times--
		lack -= x.plusTimes(x.by, 1)
	}
	return times
}

// guess answers how often the divisor goes at most.
func (x division) guess() uint64 {
	n := len(x.by)
	high, next, top := x.row[n], x.row[n-1], x.by[n-1]
	if high >= top { // then the quotient of two digits by one is none
		return math.MaxUint64
	}
	times, _ := bits.Div64(high, next, top)
	return times
}
