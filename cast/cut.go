package cast

import (
	"slices"

	"ogee/api"
	"ogee/dyad"
)

// cut is where a line is cut: how far from its lower end, and from its upper one, in steps of 2^-fine, as wide as they may be: so in the middle both are 1, and a line is halved by sums and shifts alone.
type cut struct {
	ahead, behind api.Num
	fine          int
}

func cutAt(s api.Num) cut {
	fine := -dyad.Form(s).E
	ahead := dyad.Shift(s, fine)
	return cut{ahead: ahead, behind: dyad.Sub(dyad.Shift(dyad.Of(1), fine), ahead), fine: fine}
}

// lower makes of a line its part ahead of the cut. As t^i (1-t)^(d-i) at s t is s^i t^i ((1-t) + (1-s) t)^(d-i), each number has its power of s, and then with each degree what there is so far goes up by the factor (1-t) + (1-s) t. All of this is reckoned in steps; how wide one is comes in at the end, once for each t.
func (c cut) lower(line []api.Num) {
	factor := dyad.Of(1)
	for i := range line {
		line[i] = times(line[i], factor)
		factor = times(factor, c.ahead)
	}
	for top := 1; top < len(line); top++ {
		for i := top; i > 0; i-- {
			line[i] = dyad.Add(line[i], times(line[i-1], c.behind))
		}
	}
	for i, n := range line {
		line[i] = dyad.Shift(n, -i*c.fine)
	}
}

// upper makes of a line its part behind the cut: seen from the other end, that is the one ahead of it.
func (c cut) upper(line []api.Num) {
	slices.Reverse(line)
	cut{ahead: c.behind, behind: c.ahead, fine: c.fine}.lower(line)
	slices.Reverse(line)
}

// times answers a number's product with a factor. Most factors are 1, as lines are mostly halved, and such a product is at hand.
func times(a, factor api.Num) api.Num {
	if factor == dyad.Of(1) {
		return a
	}
	return dyad.Mul(a, factor)
}
