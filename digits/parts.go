package digits

import (
	"slices"
	"strconv"

	"ogee/api"
	"ogee/nat"
	"ogee/whole"
)

// What a part is.
const (
	width = 18                        // so many digits an int64 holds, whichever they are
	full  = 1_000_000_000_000_000_000 // 10^18: a part stays below it
)

// parts answers the parts of some digits, one at least, the lowest part first; the highest one may have fewer digits.
func parts(s string) []api.Int {
	var l []api.Int
	size := (len(s)-1)%width + 1
next:
	for {
		part := int64(0)
		for at, r := range s {
			if at == size {
				l = append(l, whole.Of(part))
				s, size = s[at:], width
				continue next
			}
			part = 10*part + int64(r-'0')
		}
		l = append(l, whole.Of(part))
		slices.Reverse(l)
		return l
	}
}

// joined answers the number whose parts these are. Neighbours are joined, then these with theirs, because part after part would go through all of the number once for each.
func joined(l []api.Int) api.Int {
	scale := whole.Of(full)
	for len(l) > 2 {
		l = paired(l, scale)
		scale = whole.Mul(scale, scale)
	}
	return paired(l, scale)[0]
}

// paired answers half as many parts, of twice as many digits each: of each two the second one counts scale times.
func paired(l []api.Int, scale api.Int) []api.Int {
	half := make([]api.Int, 0, (len(l)+1)/2)
	for pair := range slices.Chunk(l, 2) {
		sum := pair[0]
		if len(pair) == 2 {
			sum = whole.Add(sum, whole.Mul(scale, pair[1]))
		}
		half = append(half, sum)
	}
	return half
}

// scales answers 10^18, its square, the square of that, and so on, until the next one is above all numbers of so many bits.
func scales(bits int) []api.Int {
	scale := whole.Of(full)
	l := []api.Int{scale}
	for 2*nat.Len(scale.Mag)-1 <= bits { // a square has twice as many bits, or one less
		scale = whole.Mul(scale, scale)
		l = append(l, scale)
	}
	return l
}

// spread appends the digits of a number, with noughts ahead up to a part's width, or to twice as many for each of the scales.
func spread(text []byte, a api.Int, scales []api.Int) []byte {
	if len(scales) == 0 {
		part, _ := whole.Small(a)
		return append(text, strconv.FormatInt(full+part, 10)[1:]...) // the 1 ahead keeps a part's noughts
	}
	last := len(scales) - 1
	high, low, _ := whole.Div(a, scales[last])
	return spread(spread(text, high, scales[:last]), low, scales[:last])
}
