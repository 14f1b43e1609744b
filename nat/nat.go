// Package nat is layer 1: natural numbers, as large as may be, as strings of bytes. What its functions promise stands in shared/doc/01-nat.md.
package nat

import (
	"cmp"
	"math/bits"
	"strings"
)

// most is how many bytes an answer has at most: nothing is promised of greater ones, and to ask for their memory could end the program.
const most = 1<<31 - 1

func Of(n uint64) string {
	b := eight(n)
	return string(b[bits.LeadingZeros64(n)/8:])
}

func Trim(a string) string {
	return strings.Clone(bare(a))
}

func Cmp(a, b string) int {
	a, b = bare(a), bare(b)
	if len(a) != len(b) {
		return cmp.Compare(len(a), len(b))
	}
	return strings.Compare(a, b)
}

func Len(a string) int {
	a = bare(a)
	if a == "" {
		return 0
	}
	return 8*len(a) - bits.LeadingZeros8(a[0])
}

func Zeros(a string) int {
	high := strings.TrimRight(a, "\x00")
	if high == "" {
		return 0
	}
	return 8*(len(a)-len(high)) + bits.TrailingZeros8(high[len(high)-1])
}

func Add(l ...string) string {
	var one, two room
	sum, next := row(one[:0]), row(two[:0])
	for _, a := range l {
		next = read(next[:0], a)
		sum = sum.plus(next)
	}
	return sum.text()
}

func Sub(a, b string) (string, bool) {
	if Cmp(a, b) < 0 {
		return "", false
	}
	var one, two room
	left := read(one[:0], a)
	left.minusTimes(read(two[:0], b), 1)
	return left.text(), true
}

func Mul(a, b string) string {
	var one, two room
	var both [2 * len(one)]uint64
	x, y := read(one[:0], a), read(two[:0], b)
	product := append(row(both[:0]), make(row, len(x)+len(y))...)
	for i, n := range x {
		product[i:].plusTimes(y, n)
	}
	return product.text()
}

func Div(a, b string) (quo, rem string, ok bool) {
	var one, two room
	x, y := read(one[:0], a), read(two[:0], b)
	if len(y) == 0 {
		return "", "", false
	}
	if len(x) < len(y) {
		return "", x.text(), true
	}
	times, rest := divide(x, y)
	return times.text(), rest.text(), true
}

func Shl(a string, n int) string {
	a = bare(a)
	if a == "" || n < 0 {
		return strings.Clone(a)
	}
	if n/8 > most-len(a) {
		return ""
	}
	var one, two room
	low := append(row(two[:0]), make(row, n/64)...)
	return append(low, read(one[:0], a).up(uint(n%64))...).text()
}

func Shr(a string, n int) string {
	a = bare(a)
	if n < 0 {
		return strings.Clone(a)
	}
	if n/8 >= len(a) {
		return ""
	}
	var one room
	kept := read(one[:0], a[:len(a)-n/8])
	kept.down(uint(n % 8))
	return kept.text()
}

// bare answers the one form in a's own memory, so it is for what does not leave the package.
func bare(a string) string {
	return strings.TrimLeft(a, "\x00")
}
