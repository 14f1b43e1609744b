package poly

import (
	"strings"

	"ogee/api"
	"ogee/dyad"
	"ogee/mono"
)

// gathered answers the polynomial whose terms are all parts' rows together, each of which must rise by itself. Its terms are new memory, whatever memory the rows have.
func gathered[P any](vars int, parts []P, row func(part P) []api.Term) (api.Poly, api.Errno) {
	var terms []api.Term
	for _, t := range byHalves(parts, row, lower, together) {
		c := dyad.Form(t.C)
		if dyad.Sign(c) == 0 {
			continue
		}
		if len(terms) == api.MaxTerms {
			return api.Poly{}, api.ErrLimit
		}
		terms = append(terms, api.Term{Mono: strings.Clone(t.Mono), C: c})
	}
	return api.Poly{Vars: vars, Terms: terms}, api.OK
}

// sum answers the sum of polynomials that may be, in as many variables, at least one of them.
func sum(l []api.Poly) (api.Poly, api.Errno) {
	return gathered(l[0].Vars, l, func(p api.Poly) []api.Term { return p.Terms })
}

// times answers the product of two polynomials that may be, in as many variables.
func times(p, q api.Poly) (api.Poly, api.Errno) {
	if len(p.Terms)*len(q.Terms) > api.MaxProducts {
		return api.Poly{}, api.ErrLimit
	}
	if _, e := mono.Mul(top(p), top(q)); e != api.OK {
		return api.Poly{}, e
	}
	if len(p.Terms) > len(q.Terms) {
		p, q = q, p // fewer rows are sooner merged
	}
	return gathered(p.Vars, p.Terms, func(t api.Term) []api.Term { return multiplied(q.Terms, t) })
}

// top is the product of all variables' greatest powers: two polynomials have a product of terms with an exponent above MaxExp just if their tops have.
func top(p api.Poly) string {
	m, _ := mono.Of(greatest(p)...) // which are within MaxExp, as p may be
	return m
}

// multiplied answers all terms times one, in the order in which they stand: a factor changes none.
func multiplied(l []api.Term, by api.Term) []api.Term {
	products := make([]api.Term, len(l))
	for i, t := range l {
		m, _ := mono.Mul(t.Mono, by.Mono) // within MaxExp, as the tops' product is
		products[i] = api.Term{Mono: m, C: dyad.Mul(t.C, by.C)}
	}
	return products
}

func alone(t api.Term) []api.Term {
	return []api.Term{t}
}

func lower(a, b api.Term) bool {
	return a.Mono < b.Mono
}

// together answers one term out of two of the same product.
func together(a, b api.Term) api.Term {
	return api.Term{Mono: a.Mono, C: dyad.Add(a.C, b.C)}
}
