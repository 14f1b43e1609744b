package bern

import (
	"slices"

	"ogee/api"
	"ogee/dyad"
	"ogee/mono"
	"ogee/poly"
)

// places answers, for each variable, the polynomial that it is of the t's.
func places(b api.Box) []api.Poly {
	return linear(b, func(s api.Span) (start, step api.Num) { return s.Lo, dyad.Sub(s.Hi, s.Lo) })
}

// distances answers, for each axis, how far its variable is from the lower end.
func distances(b api.Box) []api.Poly {
	return linear(b, func(s api.Span) (start, step api.Num) { return dyad.Neg(s.Lo), dyad.Of(1) })
}

// linear answers for each axis the polynomial whose value is start where its variable is 0, and which goes up by step. No error can come of it: a form has no more axes than a polynomial may have variables.
func linear(b api.Box, of func(s api.Span) (start, step api.Num)) []api.Poly {
	l := make([]api.Poly, len(b))
	for axis, s := range b {
		exps := make([]int, len(b))
		none, _ := mono.Of(exps...)
		exps[axis] = 1
		one, _ := mono.Of(exps...)
		start, step := of(s)
		l[axis], _ = poly.Make(len(b), api.Term{Mono: none, C: start}, api.Term{Mono: one, C: step})
	}
	return l
}

// ofPowers answers a polynomial's numbers in the order of a form's: one for each product within the degrees, which must be enough for it, and may be a form's.
func ofPowers(p api.Poly, deg []int) api.Form {
	size, _ := count(deg...)
	f := api.Form{Deg: slices.Clone(deg), C: make([]api.Num, size)}
	for _, t := range p.Terms {
		at := 0
		for axis, n := range mono.Exps(t.Mono) {
			at = at*(deg[axis]+1) + n
		}
		f.C[at] = t.C
	}
	return f
}

// polyOf takes back what ofPowers does: all products within the degrees rise as rows of indices do.
func polyOf(f api.Form) (api.Poly, api.Errno) {
	l := make([]api.Term, len(f.C))
	for i, m := range mono.All(f.Deg...) {
		l[i] = api.Term{Mono: m, C: f.C[i]}
	}
	return poly.Make(len(f.Deg), l...)
}
