package dyad

import (
	"cmp"
	"math"

	"ogee/api"
	"ogee/nat"
	"ogee/whole"
)

// apart is how far the Es of a sum's numbers are apart at most: nothing is promised of those beyond, and to reckon with them could take all memory.
const apart = 1 << 32

// scale is a power of two that numbers are told by as whole numbers.
type scale struct{ e int }

// pair is two numbers on one scale.
type pair struct {
	scale
	a, b api.Int
}

// shared answers the finest scale that one of the numbers needs, and whether none is too far above it. Noughts need none.
func shared(l ...api.Num) (scale, bool) {
	low, high := math.MaxInt, math.MinInt
	for _, a := range l {
		if Sign(a) != 0 {
			low, high = min(low, a.E), max(high, a.E)
		}
	}
	return scale{e: low}, low > high || uint(high)-uint(low) <= apart
}

func paired(a, b api.Num) (pair, bool) {
	s, ok := shared(a, b)
	if !ok {
		return pair{}, false
	}
	return pair{scale: s, a: s.count(a), b: s.count(b)}, true
}

// count answers how many times 2^e a number is, perhaps in its own memory, so it is for what does not leave the package.
func (s scale) count(a api.Num) api.Int {
	if a.E == s.e {
		return a.M
	}
	return whole.Shift(a.M, a.E-s.e)
}

// num answers the number that is m times 2^e: m in whole's one form, and in memory of its own.
func (s scale) num(m api.Int) api.Num {
	return made(m, s.e)
}

// cmpBits compares how high the highest bits of two numbers stand that are not 0 (of two noughts it says nothing): so far apart as they may be, no bit is moved.
func cmpBits(a, b api.Num) int {
	if a.E < b.E {
		return -cmpBits(b, a)
	}
	gap := uint(a.E) - uint(b.E)
	top := nat.Len(b.M.Mag)
	if gap > uint(top) {
		return 1
	}
	return cmp.Compare(nat.Len(a.M.Mag)+int(gap), top)
}
