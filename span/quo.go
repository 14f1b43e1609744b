package span

import (
	"ogee/api"
	"ogee/dyad"
	"ogee/whole"
)

// most is how many bits of a quotient are told at most, below the E of what is divided: more than any that is promised has, and so few that each call soon comes to its end. Where a grid is finer than that, the ends are of a coarser one, and still around the quotient.
const most = 1 << 22

// wholeQuo answers a span around a divided by m, with so many bits below a's E, one step wide or none. m must be odd and above 0: then a rest says that the quotient is of no grid at all, however many bits there are.
func wholeQuo(a api.Num, m api.Int, bits int) api.Span {
	down, rest, _ := whole.Div(whole.Shift(a.M, bits), m)
	up := down
	if whole.Sign(rest) != 0 {
		up = whole.Add(down, whole.Of(1))
	}
	return api.Span{Lo: dyad.Make(down, a.E-bits), Hi: dyad.Make(up, a.E-bits)}
}

// below answers how many bits stand below that E on the grid of p: none on a coarser one, and not more than most.
func below(e, p int) int {
	bits := e + p
	if (bits >= e) != (p >= 0) {
		bits = max(e, p) // no int is the sum, and this lies beyond the same bound
	}
	return min(max(bits, 0), most)
}
