package calc

import (
	"slices"

	"ogee/api"
	"ogee/poly"
)

// put is the polynomials that are put in for the variables.
type put struct{ l []api.Poly }

// check answers what is wrong with them. Each one is checked ahead of what they have in common, as the chapter's order puts a limit that one is beyond ahead of that.
func (in put) check() api.Errno {
	for _, q := range in.l {
		if e := poly.Check(q); e != api.OK {
			return e
		}
	}
	unlike := func(q api.Poly) bool { return q.Vars != in.vars() }
	if slices.ContainsFunc(in.l, unlike) {
		return api.ErrArg
	}
	return api.OK
}

// vars answers how many variables they have themselves: none, if there are none of them.
func (in put) vars() int {
	if len(in.l) == 0 {
		return 0
	}
	return in.l[0].Vars
}

// sum answers what comes of terms, rising, that have the same powers of all variables ahead of one, by the variables from that one on. It is Horner's rule to the letter, as what is on the way has limits too: other ways would break them elsewhere.
func (in put) sum(terms []api.Term, which int) (api.Poly, api.Errno) {
	sum := api.Poly{Vars: in.vars()}
	if len(terms) == 0 {
		return sum, api.OK
	}
	if which == len(in.l) {
		return poly.Const(in.vars(), terms[0].C)
	}
	power := api.MaxExp
	for len(terms) > 0 {
		first := firstOfLast(terms, which)
		next := int(terms[first].Mono[which])
		more, e := in.sum(terms[first:], which+1)
		if e != api.OK {
			return api.Poly{}, e
		}
		if sum, e = in.times(sum, which, power-next); e != api.OK {
			return api.Poly{}, e
		}
		if sum, e = poly.Add(sum, more); e != api.OK {
			return api.Poly{}, e
		}
		terms, power = terms[:first], next
	}
	return in.times(sum, which, power)
}

// times answers what there is so far times the polynomial of a variable, n times, one multiplication behind the other.
func (in put) times(sum api.Poly, which, n int) (api.Poly, api.Errno) {
	if len(sum.Terms) == 0 {
		return sum, api.OK
	}
	row := slices.Repeat(in.l[which:which+1], n)
	return poly.Mul(slices.Insert(row, 0, sum)...)
}

// firstOfLast answers where the terms begin that have the last one's power of a variable.
func firstOfLast(terms []api.Term, which int) int {
	power := terms[len(terms)-1].Mono[which]
	return slices.IndexFunc(terms, func(t api.Term) bool { return t.Mono[which] == power })
}
