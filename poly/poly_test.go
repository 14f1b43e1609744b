package poly

import (
	"fmt"
	"maps"
	"math"
	"math/big"
	"math/rand"
	"slices"
	"strings"
	"testing"
	"unsafe"

	"ogee/api"
)

// up and down: the number of that size above 0, below it, times 2^e. They needn't be in the one form.
func up(mag string, e int) api.Num   { return api.Num{M: api.Int{Mag: mag}, E: e} }
func down(mag string, e int) api.Num { return api.Num{M: api.Int{Neg: true, Mag: mag}, E: e} }

// dy: m times 2^e, in the one form.
func dy(m int64, e int) api.Num { return num(rat(api.Num{M: api.Int{Neg: m < 0, Mag: size(m)}, E: e})) }

func size(m int64) string { return string(new(big.Int).Abs(big.NewInt(m)).Bytes()) }

// term is a number with the product of these exponents; of is the polynomial with these terms, as they stand.
func term(c api.Num, exps ...byte) api.Term { return api.Term{Mono: string(exps), C: c} }

func of(vars int, l ...api.Term) api.Poly { return api.Poly{Vars: vars, Terms: l} }

// rat and num: the library's fractions are what answers are held against. num tells the one form.
func rat(a api.Num) *big.Rat {
	n := new(big.Int).SetBytes([]byte(a.M.Mag))
	if a.M.Neg {
		n.Neg(n)
	}
	if a.E >= 0 {
		return new(big.Rat).SetInt(n.Lsh(n, uint(a.E)))
	}
	return new(big.Rat).SetFrac(n, new(big.Int).Lsh(big.NewInt(1), uint(-a.E)))
}

func num(r *big.Rat) api.Num {
	if r.Sign() == 0 {
		return api.Num{}
	}
	zeros := r.Num().TrailingZeroBits()
	mag := new(big.Int).Rsh(new(big.Int).Abs(r.Num()), zeros)
	return api.Num{M: api.Int{Neg: r.Sign() < 0, Mag: string(mag.Bytes())}, E: int(zeros) - r.Denom().BitLen() + 1}
}

// model is a polynomial as a map: what stands with each product.
type model map[string]*big.Rat

func (m model) add(mono string, c *big.Rat) {
	if m[mono] == nil {
		m[mono] = new(big.Rat)
	}
	m[mono].Add(m[mono], c)
}

func modelOf(l ...api.Term) model {
	m := model{}
	for _, t := range l {
		m.add(t.Mono, rat(t.C))
	}
	return m
}

// poly is the model as a polynomial that may be.
func (m model) poly(vars int) api.Poly {
	p := of(vars)
	for _, mono := range slices.Sorted(maps.Keys(m)) {
		if m[mono].Sign() != 0 {
			p.Terms = append(p.Terms, api.Term{Mono: mono, C: num(m[mono])})
		}
	}
	return p
}

func plus(l ...model) model {
	m := model{}
	for _, a := range l {
		for mono, c := range a {
			m.add(mono, c)
		}
	}
	return m
}

func product(a, b model) model {
	m := model{}
	for x, c := range a {
		for y, d := range b {
			exps := []byte(x)
			for i := range exps {
				exps[i] += y[i]
			}
			m.add(string(exps), new(big.Rat).Mul(c, d))
		}
	}
	return m
}

// vary makes polynomials that may be of what chance (the same each time) says: terms, at most, with exponents up to most.
func vary(r *rand.Rand, vars, terms int, most int) api.Poly {
	m := model{}
	for range r.Intn(terms + 1) {
		exps := make([]byte, vars)
		for i := range exps {
			exps[i] = byte(r.Intn(most + 1))
		}
		m.add(string(exps), rat(dy(int64(r.Intn(2001)-1000)<<r.Intn(20), r.Intn(80)-40)))
	}
	return m.poly(vars)
}

// samples are polynomials that may be in so many variables: nought, numbers, variables, some at the edges, and what chance makes.
func samples(vars int) []api.Poly {
	zeros, ones := make([]byte, vars), []byte(strings.Repeat("\x01", vars))
	l := []api.Poly{of(vars), of(vars, term(dy(1, 0), zeros...)), of(vars, term(dy(-5, -3), zeros...)), of(vars, term(dy(7, 300), ones...))}
	for i := range min(vars, 3) {
		x := slices.Clone(zeros)
		x[i] = 1
		l = append(l, of(vars, term(dy(1, 0), x...)), of(vars, term(dy(-1, 0), zeros...), term(dy(1, 0), x...)), of(vars, term(dy(1, 0), zeros...), term(dy(1, 0), x...)))
	}
	r := rand.New(rand.NewSource(int64(vars)))
	for range 6 {
		l = append(l, vary(r, vars, 4, 2), vary(r, vars, 9, 7))
	}
	return l
}

// allVars are the counts of variables that samples are made of.
func allVars() []int { return []int{0, 1, 2, 3, 12} }

// grid is the polynomial with all products of powers of two variables below x, below y, each with 1.
func grid(x, y int) api.Poly {
	p := of(2)
	for i := range x {
		for j := range y {
			p.Terms = append(p.Terms, term(dy(1, 0), byte(i), byte(j)))
		}
	}
	return p
}

func alike(p, q api.Poly) bool {
	return p.Vars == q.Vars && slices.Equal(p.Terms, q.Terms)
}

// The checks hold an answer against what it should be. tell makes a short text of a polynomial.
func tell(p api.Poly) string {
	if len(p.Terms) > 20 {
		return fmt.Sprintf("%d terms in %d", len(p.Terms), p.Vars)
	}
	return fmt.Sprintf("%#v", p)
}

func is(t *testing.T, what string, want api.Poly) func(p api.Poly, e api.Errno) {
	t.Helper()
	return func(p api.Poly, e api.Errno) {
		t.Helper()
		if e != api.OK || !alike(p, want) {
			t.Errorf("%s: %s, %d; not %s", what, tell(p), e, tell(want))
		}
	}
}

// fails says that there is that error, and nothing else.
func fails(t *testing.T, what string, want api.Errno) func(p api.Poly, e api.Errno) {
	t.Helper()
	return func(p api.Poly, e api.Errno) {
		t.Helper()
		if e != want || p.Vars != 0 || len(p.Terms) != 0 {
			t.Errorf("%s: %s, %d; not error %d", what, tell(p), e, want)
		}
	}
}

// The chapter's examples, row by row.
func TestExamples(t *testing.T) {
	one, x1 := term(dy(1, 0), 0), term(dy(1, 0), 1)
	is(t, "Make", of(1, term(dy(3, 0), 0)))(Make(1, x1, term(dy(3, 0), 0), term(dy(-2, 0), 1), x1))
	is(t, "Make of 1 with 2, 0 with 3, 1 with -2", of(1, term(dy(3, 0), 0)))(Make(1, term(dy(2, 0), 1), term(dy(3, 0), 0), term(dy(-2, 0), 1)))

	x, y := term(dy(1, 0), 1, 0), term(dy(1, 0), 0, 1)
	less := term(dy(-1, 0), 0, 1)
	is(t, "Mul(x + y, x - y)", of(2, term(dy(-1, 0), 0, 2), term(dy(1, 0), 2, 0)))(Mul(of(2, y, x), of(2, less, x)))

	is(t, "Pow(x + 1, 2)", of(1, one, term(dy(2, 0), 1), term(dy(1, 0), 2)))(Pow(of(1, one, x1), 2))

	fails(t, "Add()", api.ErrArg)(Add())
	fails(t, "Var(2, 2)", api.ErrArg)(Var(2, 2))
	fails(t, "Pow(x, -1)", api.ErrArg)(Pow(of(1, x1), -1))
	fails(t, "Const(13, 1)", api.ErrArg)(Const(13, dy(1, 0)))

	if degs := Degs(of(2, term(dy(1, 0), 2, 1))); !slices.Equal(degs, []int{2, 1}) {
		t.Errorf("Degs(x x y): %v", degs)
	}
}

// wrong are polynomials that may not be, with the error of each.
func wrong() map[string]struct {
	p api.Poly
	e api.Errno
} {
	one := dy(1, 0)
	many := grid(64, 65)
	at := func(i int, t api.Term) api.Poly {
		p := of(2, term(one, 0, 0), term(one, 1, 2), term(one, 2, 1))
		p.Terms[i] = t
		return p
	}
	of13 := of(13, term(one, make([]byte, 13)...))
	many13, manySpoilt := of(13, many.Terms...), of(2, slices.Clone(many.Terms)...)
	manySpoilt.Terms[0].Mono = "\xff"
	type bad = struct {
		p api.Poly
		e api.Errno
	}
	return map[string]bad{
		"13 variables":                {of13, api.ErrArg},
		"13 variables, no terms":      {of(13), api.ErrArg},
		"-1 variables":                {of(-1), api.ErrArg},
		"-1 variables, a term":        {of(-1, term(one)), api.ErrArg},
		"the least int":               {of(math.MinInt), api.ErrArg},
		"the greatest int":            {of(math.MaxInt), api.ErrArg},
		"2^32 more variables":         {of(1<<32+2, many.Terms[:3]...), api.ErrArg},
		"13 variables and many terms": {many13, api.ErrArg},
		"many terms":                  {many, api.ErrLimit},
		"one more than the limit":     {of(2, many.Terms[:4097]...), api.ErrLimit},
		"many terms, no products":     {manySpoilt, api.ErrLimit},
		"the same product twice":      {at(1, term(one, 0, 0)), api.ErrArg},
		"the same product at the end": {at(2, term(one, 1, 2)), api.ErrArg},
		"products that fall":          {at(2, term(one, 1, 1)), api.ErrArg},
		"products that fall at first": {at(0, term(one, 1, 3)), api.ErrArg},
		"a product of one":            {at(0, term(one, 0)), api.ErrArg},
		"a product of none":           {at(0, term(one)), api.ErrArg},
		"a product of three":          {at(2, term(one, 2, 0, 0)), api.ErrArg},
		"an exponent above 127":       {at(2, term(one, 2, 128)), api.ErrArg},
		"a rune":                      {at(2, api.Term{Mono: "\u00e9", C: one}), api.ErrArg},
		"bytes that make no rune":     {at(2, api.Term{Mono: "\xff\xfe", C: one}), api.ErrArg},
		"a product of none, one more": {of(0, term(one), term(one)), api.ErrArg},
		"a nought":                    {at(0, term(api.Num{}, 0, 0)), api.ErrArg},
		"a nought at the end":         {at(2, term(api.Num{}, 2, 1)), api.ErrArg},
		"a nought with a sign":        {at(1, term(down("", 0), 1, 2)), api.ErrArg},
		"a nought with an E":          {at(1, term(up("", 1), 1, 2)), api.ErrArg},
		"a nought of a byte":          {at(1, term(up("\x00", 0), 1, 2)), api.ErrArg},
		"an even M":                   {at(1, term(up("\x02", 0), 1, 2)), api.ErrArg},
		"an even M below 0":           {at(2, term(down("\x01\x00", -8), 2, 1)), api.ErrArg},
		"a byte 0 ahead":              {at(0, term(up("\x00\x01", 0), 0, 0)), api.ErrArg},
	}
}

// may are polynomials that may be, at the edges of what may.
func may() map[string]api.Poly {
	one := dy(1, 0)
	return map[string]api.Poly{
		"nought of none":       of(0),
		"nought of twelve":     of(12),
		"a number":             of(0, term(dy(-3, 5))),
		"a number in twelve":   of(12, term(dy(-3, 5), make([]byte, 12)...)),
		"all greatest powers":  of(12, api.Term{Mono: strings.Repeat("\x7f", 12), C: one}),
		"products that rise":   of(2, term(one, 0, 127), term(one, 1, 0), term(one, 1, 1), term(one, 127, 0)),
		"as many terms as may": grid(64, 64),
		"an empty list":        {Vars: 3, Terms: []api.Term{}},
		"far Es":               of(1, term(dy(1, -32768), 0), term(dy(-1, 32768), 1)),
		"a long M":             of(1, term(up(strings.Repeat("\xff", 4096), -7), 5)),
	}
}

// P8.1
func TestCheck(t *testing.T) {
	for what, x := range wrong() {
		if e := Check(x.p); e != x.e {
			t.Errorf("%s: %d, not %d", what, e, x.e)
		}
	}
	for what, p := range may() {
		if e := Check(p); e != api.OK {
			t.Errorf("%s: %d", what, e)
		}
	}
	for _, vars := range allVars() {
		for _, p := range samples(vars) {
			if e := Check(p); e != api.OK {
				t.Errorf("%s: %d", tell(p), e)
			}
		}
	}
	for vars := -20; vars <= 300; vars++ {
		want := api.OK
		if vars < 0 || vars > 12 {
			want = api.ErrArg
		}
		if e := Check(of(vars)); e != want {
			t.Errorf("nought in %d variables: %d", vars, e)
		}
	}
}

// P8.1: terms in any order, with any numbers, many of one product.
func TestMake(t *testing.T) {
	is(t, "of none", of(0))(Make(0))
	is(t, "of none in twelve", of(12))(Make(12))
	is(t, "numbers", of(0, term(dy(3, -1))))(Make(0, term(dy(1, 0)), term(dy(1, -1))))
	is(t, "raw numbers", of(1, term(dy(1, 1), 0), term(dy(-3, 2), 1)))(Make(1, term(down("\x00\x0c", 0), 1), term(up("\x04", -1), 0)))
	is(t, "noughts", of(1))(Make(1, term(down("", 5), 1), term(up("\x00\x00", -1), 0), term(api.Num{}, 7)))
	is(t, "raw numbers of one product", of(1, term(dy(1, 0), 9)))(Make(1, term(up("\x02", -2), 9), term(down("\x00", 3), 9), term(up("\x00\x08", -4), 9)))
	is(t, "what is taken away again", of(1))(Make(1, term(up("\x04", -1), 3), term(down("\x02", 0), 3)))
	is(t, "at the edge", of(2, term(dy(1, 0), 0, 127), term(dy(1, 0), 127, 0)))(Make(2, term(dy(1, 0), 127, 0), term(dy(1, 0), 0, 127)))
	is(t, "the first one, then the third", of(1, term(dy(1, 0), 1), term(dy(1, 0), 2), term(dy(1, 0), 3)))(Make(1, term(dy(1, 0), 3), term(dy(1, 0), 1), term(dy(1, 0), 2)))

	r := rand.New(rand.NewSource(1))
	for range 2000 {
		vars, most := r.Intn(4), 1+r.Intn(3)
		var l []api.Term
		for range r.Intn(40) {
			exps := make([]byte, vars)
			for i := range exps {
				exps[i] = byte(r.Intn(most))
			}
			mag := strings.Repeat("\x00", r.Intn(2)) + string([]byte{byte(r.Intn(3)), byte(r.Intn(4))})
			l = append(l, term(api.Num{M: api.Int{Neg: r.Intn(2) == 0, Mag: mag}, E: r.Intn(5) - 2}, exps...))
		}
		is(t, fmt.Sprintf("%#v", l), modelOf(l...).poly(vars))(Make(vars, l...))
	}
}

// P8.1: all orders of the same terms make the same.
func TestMakeOrders(t *testing.T) {
	l := []api.Term{term(dy(2, 0), 0, 1), term(dy(3, 0), 1, 0), term(dy(-2, 0), 0, 1), term(dy(5, 0), 0, 0), term(dy(1, -1), 1, 0), term(dy(7, 0), 1, 1)}
	want := of(2, term(dy(5, 0), 0, 0), term(dy(7, -1), 1, 0), term(dy(7, 0), 1, 1))
	var all func(n int)
	all = func(n int) {
		if n == len(l) {
			is(t, fmt.Sprintf("%#v", l), want)(Make(2, l...))
		}
		for i := n; i < len(l); i++ {
			l[n], l[i] = l[i], l[n]
			all(n + 1)
			l[n], l[i] = l[i], l[n]
		}
	}
	all(0)
}

// P8.1: what is none is ErrArg, also among more terms than may be.
func TestMakeWrong(t *testing.T) {
	one := dy(1, 0)
	for _, vars := range []int{-1, 13, 14, 256, -256, 1 << 32, math.MinInt, math.MaxInt} {
		fails(t, "that many variables", api.ErrArg)(Make(vars))
		fails(t, "that many variables", api.ErrArg)(Make(vars, term(one, 1)))
		fails(t, "that many variables", api.ErrArg)(Make(vars, api.Term{Mono: strings.Repeat("\x00", min(max(vars, 0), 300)), C: one}))
		fails(t, "that many variables", api.ErrArg)(Make(vars, slices.Repeat([]api.Term{term(one)}, 70000)...))
	}
	for _, bad := range []string{"", "\x00", "\x00\x00\x00", "\x00\x80", "\xff\x00", "\u00e9", "\xc3\x01", "\x01\x02\x80"} {
		for _, l := range [][]api.Term{{}, {term(one, 0, 0)}, {term(one, 0, 0), term(one, 0, 1), term(one, 0, 0)}, slices.Repeat([]api.Term{term(one, 1, 1)}, 65536)} {
			spoilt := api.Term{Mono: bad, C: one}
			fails(t, "ahead", api.ErrArg)(Make(2, append([]api.Term{spoilt}, l...)...))
			fails(t, "behind", api.ErrArg)(Make(2, append(slices.Clone(l), spoilt)...))
			fails(t, "with a nought", api.ErrArg)(Make(2, append(slices.Clone(l), api.Term{Mono: bad})...))
		}
	}
}

// P8.1: at the limits of terms that are handed in, and of an answer's.
func TestMakeLimits(t *testing.T) {
	l := slices.Repeat(grid(64, 64).Terms, 16)
	want := grid(64, 64)
	for i := range want.Terms {
		want.Terms[i].C = dy(16, 0)
	}
	is(t, "65536 terms", want)(Make(2, l...))
	fails(t, "65537 terms", api.ErrLimit)(Make(2, append(l, term(dy(1, 0), 0, 0))...))
	fails(t, "65537 noughts", api.ErrLimit)(Make(2, slices.Repeat([]api.Term{term(api.Num{}, 0, 0)}, 65537)...))
	is(t, "65536 noughts", of(2))(Make(2, slices.Repeat([]api.Term{term(api.Num{}, 0, 0)}, 65536)...))

	wide := grid(64, 65).Terms
	is(t, "4096 terms of an answer", of(2, wide[:4096]...))(Make(2, wide[:4096]...))
	fails(t, "4097 terms of an answer", api.ErrLimit)(Make(2, wide[:4097]...))
	fails(t, "the last one", api.ErrLimit)(Make(2, wide...))
	is(t, "one goes", of(2, wide[1:4097]...))(Make(2, append(slices.Clone(wide[:4097]), term(dy(-1, 0), 0, 0))...))
	is(t, "the last one goes", of(2, wide[:4096]...))(Make(2, append(slices.Clone(wide[:4097]), api.Term{Mono: wide[4096].Mono, C: dy(-1, 0)})...))
	is(t, "noughts beside", of(2, wide[:4096]...))(Make(2, append(slices.Clone(wide[:4096]), term(api.Num{}, 70, 70))...))
}

// P8.2
func TestConstVar(t *testing.T) {
	for vars := -3; vars <= 20; vars++ {
		what := fmt.Sprint(vars)
		bad := vars < 0 || vars > 12
		for _, c := range []api.Num{dy(1, 0), dy(-5, -9), up("\x00\x0c", 3), down("\xff", -32768), api.Num{}, down("", 3), up("\x00", -1)} {
			if bad {
				fails(t, what, api.ErrArg)(Const(vars, c))
				continue
			}
			want := of(vars)
			if rat(c).Sign() != 0 {
				want = of(vars, term(num(rat(c)), make([]byte, vars)...))
			}
			is(t, what, want)(Const(vars, c))
		}
		for which := -3; which <= 20; which++ {
			if bad || which < 0 || which >= vars {
				fails(t, what, api.ErrArg)(Var(vars, which))
				continue
			}
			x := make([]byte, vars)
			x[which] = 1
			is(t, what, of(vars, term(dy(1, 0), x...)))(Var(vars, which))
		}
	}
	for _, n := range []int{math.MinInt, math.MaxInt, 1 << 32, -1 << 32} {
		fails(t, "far", api.ErrArg)(Const(n, dy(1, 0)))
		fails(t, "far", api.ErrArg)(Var(n, 0))
		fails(t, "far", api.ErrArg)(Var(n, n-1))
		fails(t, "far", api.ErrArg)(Var(2, n))
	}
}

// P8.3
func TestAddMul(t *testing.T) {
	for _, vars := range allVars() {
		l := samples(vars)
		for i, p := range l {
			is(t, "Add of one", p)(Add(p))
			is(t, "Mul of one", p)(Mul(p))
			for j, q := range l {
				a, b := modelOf(p.Terms...), modelOf(q.Terms...)
				what := tell(p) + " and " + tell(q)
				is(t, what, plus(a, b).poly(vars))(Add(p, q))
				is(t, what, product(a, b).poly(vars))(Mul(p, q))
				o := l[(5*i+3*j+1)%len(l)]
				c := modelOf(o.Terms...)
				what += " and " + tell(o)
				is(t, what, plus(a, b, c).poly(vars))(Add(p, q, o))
				is(t, what, product(product(a, b), c).poly(vars))(Mul(p, q, o))
			}
		}
		all := model{}
		for i, p := range l {
			all = plus(all, modelOf(p.Terms...))
			is(t, "a row", all.poly(vars))(Add(l[:i+1]...))
		}
	}
}

// P8.3
func TestMulMany(t *testing.T) {
	x := of(1, term(dy(-1, 0), 0), term(dy(1, 0), 1))
	want := modelOf(term(dy(1, 0), 0))
	for n := range 40 {
		if n > 0 {
			is(t, "so many", want.poly(1))(Mul(slices.Repeat([]api.Poly{x}, n)...))
			is(t, "so many, and nought", of(1))(Mul(append(slices.Repeat([]api.Poly{x}, n), of(1))...))
			is(t, "nought, and so many", of(1))(Mul(append([]api.Poly{of(1)}, slices.Repeat([]api.Poly{x}, n)...)...))
		}
		want = product(want, modelOf(x.Terms...))
	}
}

// P8.3, R4
func TestScale(t *testing.T) {
	numbers := []api.Num{{}, dy(1, 0), dy(-1, 0), dy(3, -7), up("\x00\x0c", 3), down("\x01\x00", -8), down("", 4), up("\x00\x00", -2)}
	for _, vars := range allVars() {
		for _, p := range samples(vars) {
			for _, c := range numbers {
				m := modelOf()
				for _, x := range p.Terms {
					m.add(x.Mono, new(big.Rat).Mul(rat(x.C), rat(c)))
				}
				is(t, fmt.Sprintf("%s by %#v", tell(p), c), m.poly(vars))(Scale(p, c))
			}
		}
	}
	half := grid(64, 64)
	for i := range half.Terms {
		half.Terms[i].C = dy(1, -1)
	}
	is(t, "as many terms as may be", half)(Scale(grid(64, 64), dy(1, -1)))
}

// P8.3
func TestPow(t *testing.T) {
	for _, vars := range allVars() {
		for _, p := range samples(vars) {
			want := modelOf(term(dy(1, 0), make([]byte, vars)...))
			for n := range 5 {
				is(t, fmt.Sprintf("%s to the %d", tell(p), n), want.poly(vars))(Pow(p, n))
				want = product(want, modelOf(p.Terms...))
			}
			for _, n := range []int{-1, -2, 128, 129, 256, 1 << 32, math.MinInt, math.MaxInt} {
				fails(t, "that power", api.ErrArg)(Pow(p, n))
			}
		}
	}
	row := of(1)
	for i := range 128 {
		c := num(new(big.Rat).SetInt(new(big.Int).Binomial(127, int64(i))))
		row.Terms = append(row.Terms, term(c, byte(i)))
	}
	is(t, "x + 1 to the 127", row)(Pow(of(1, term(dy(1, 0), 0), term(dy(1, 0), 1)), 127))
	is(t, "1 to the 127", of(3, term(dy(1, 0), 0, 0, 0)))(Pow(of(3, term(dy(1, 0), 0, 0, 0)), 127))
	is(t, "2 to the 127", of(0, term(dy(1, 127))))(Pow(of(0, term(dy(1, 1))), 127))
	is(t, "0 to the 127", of(2))(Pow(of(2), 127))
}

// P8.3: powers whose halves' product would be beyond the limit, as 1 by 1 they are not.
func TestPowOneByOne(t *testing.T) {
	p := of(2, term(dy(1, 0), 0, 0), term(dy(1, 0), 0, 1), term(dy(1, 0), 1, 0))
	want := of(2)
	for i := range 65 {
		for j := range 65 - i {
			c := new(big.Int).Binomial(64, int64(i))
			c.Mul(c, new(big.Int).Binomial(int64(64-i), int64(j)))
			want.Terms = append(want.Terms, term(num(new(big.Rat).SetInt(c)), byte(i), byte(j)))
		}
	}
	is(t, "1 + x + y to the 64", want)(Pow(p, 64))
	if q, e := Pow(p, 89); e != api.OK || len(q.Terms) != 90*91/2 {
		t.Errorf("1 + x + y to the 89: %s, %d", tell(q), e)
	}
	fails(t, "1 + x + y to the 90", api.ErrLimit)(Pow(p, 90))
	fails(t, "1 + x + y to the 127", api.ErrLimit)(Pow(p, 127))
}

// calls are all calls that are handed a polynomial and answer an error, with the polynomial in each place.
func calls(p api.Poly) map[string]func() (api.Poly, api.Errno) {
	zero := of(p.Vars)
	if p.Vars < 0 || p.Vars > 12 {
		zero.Vars = 2
	}
	return map[string]func() (api.Poly, api.Errno){
		"Add":        func() (api.Poly, api.Errno) { return Add(p) },
		"Add first":  func() (api.Poly, api.Errno) { return Add(p, zero) },
		"Add second": func() (api.Poly, api.Errno) { return Add(zero, p) },
		"Add third":  func() (api.Poly, api.Errno) { return Add(zero, zero, p) },
		"Mul":        func() (api.Poly, api.Errno) { return Mul(p) },
		"Mul first":  func() (api.Poly, api.Errno) { return Mul(p, zero) },
		"Mul second": func() (api.Poly, api.Errno) { return Mul(zero, p) },
		"Mul third":  func() (api.Poly, api.Errno) { return Mul(zero, zero, p) },
		"Scale":      func() (api.Poly, api.Errno) { return Scale(p, dy(1, 0)) },
		"Scale by 0": func() (api.Poly, api.Errno) { return Scale(p, api.Num{}) },
		"Pow":        func() (api.Poly, api.Errno) { return Pow(p, 2) },
		"Pow 0":      func() (api.Poly, api.Errno) { return Pow(p, 0) },
		"Pow 1":      func() (api.Poly, api.Errno) { return Pow(p, 1) },
		"Pow below":  func() (api.Poly, api.Errno) { return Pow(p, -1) },
		"Pow above":  func() (api.Poly, api.Errno) { return Pow(p, 128) },
	}
}

// The errors of polynomials that may not be, in each place.
func TestWrong(t *testing.T) {
	for what, x := range wrong() {
		for name, call := range calls(x.p) {
			fails(t, name+" of "+what, x.e)(call())
		}
		if degs := Degs(x.p); len(degs) != 0 {
			t.Errorf("Degs of %s: %v", what, degs)
		}
	}
	for what, p := range may() {
		for _, name := range []string{"Add", "Add first", "Add second", "Add third", "Mul", "Scale", "Pow 1"} {
			is(t, name+" of "+what, p)(calls(p)[name]())
		}
	}
}

// Of several that may not be the first one's error; a limit that one is beyond goes ahead of what they have not in common, and of a power; an answer's limits are last.
func TestErrorOrder(t *testing.T) {
	many, none, x := grid(64, 65), of(13), of(1, term(dy(1, 0), 1))
	raw := of(2, term(up("\x02", 0), 1, 1))
	do := map[string]func(l ...api.Poly) (api.Poly, api.Errno){"Add": Add, "Mul": Mul}
	for what, call := range do {
		fails(t, what, api.ErrArg)(call())
		fails(t, what, api.ErrArg)(call([]api.Poly{}...))
		fails(t, what, api.ErrArg)(call(of(2), x))
		fails(t, what, api.ErrArg)(call(x, x, of(0)))
		fails(t, what, api.ErrArg)(call(of(12), of(11)))
		fails(t, what, api.ErrLimit)(call(many, raw))
		fails(t, what, api.ErrArg)(call(raw, many))
		fails(t, what, api.ErrLimit)(call(many, none))
		fails(t, what, api.ErrArg)(call(none, many))
		fails(t, what, api.ErrLimit)(call(of(2), x, many))
		fails(t, what, api.ErrLimit)(call(x, many, of(3)))
		fails(t, what, api.ErrArg)(call(grid(64, 64), of(2, term(dy(1, 0), 127, 127)), x))
		fails(t, what, api.ErrArg)(call(grid(64, 64), grid(64, 64), raw))
	}
	high := of(1, term(dy(1, 0), 127))
	fails(t, "Mul", api.ErrArg)(Mul(high, high, of(2)))
	fails(t, "Pow", api.ErrLimit)(Pow(many, -1))
	fails(t, "Pow", api.ErrArg)(Pow(grid(64, 64), 128))
	fails(t, "Pow", api.ErrLimit)(Pow(grid(64, 64), 2))
}

// ErrLimit of sums: only the answer counts, however many terms are on the way.
func TestAddLimits(t *testing.T) {
	p, q := grid(64, 64), of(2)
	for _, x := range grid(128, 64).Terms[4096:] {
		q.Terms = append(q.Terms, x)
	}
	less, _ := Scale(q, dy(-1, 0))
	fails(t, "8192 terms", api.ErrLimit)(Add(p, q))
	is(t, "what is taken away again", p)(Add(p, q, less))
	is(t, "what is taken away ahead", p)(Add(q, p, less))
	is(t, "what is taken away first", p)(Add(less, p, of(2), q))
	fails(t, "one more", api.ErrLimit)(Add(p, of(2, term(dy(1, 0), 64, 0))))
	fails(t, "one more ahead", api.ErrLimit)(Add(of(2, term(dy(1, 0), 64, 0)), p))
	is(t, "none more", of(2, append(p.Terms[1:4096:4096], term(dy(1, 0), 64, 0))...))(Add(p, of(2, term(dy(-1, 0), 0, 0), term(dy(1, 0), 64, 0))))
	double, _ := Scale(p, dy(20, 0))
	is(t, "many polynomials", double)(Add(slices.Repeat([]api.Poly{p}, 20)...))
}

// ErrLimit of products: terms that are multiplied, exponents, an answer's terms, also on the way.
func TestMulLimits(t *testing.T) {
	row := func(n int) api.Poly { return grid(1, n) }
	column := func(n int) api.Poly { return grid(n, 1) }
	is(t, "64 by 64", grid(64, 64))(Mul(column(64), row(64)))
	fails(t, "64 by 65", api.ErrLimit)(Mul(column(64), row(65)))
	fails(t, "64 by 65, times nought", api.ErrLimit)(Mul(column(64), row(65), of(2)))
	is(t, "64 by nought, times 65", of(2))(Mul(column(64), of(2), row(65)))
	is(t, "nought by 64 by 65", of(2))(Mul(of(2), column(64), row(65)))

	if p, e := Mul(grid(49, 64), column(16)); e != api.OK || len(p.Terms) != 4096 {
		t.Errorf("3136 by 16: %s, %d", tell(p), e)
	}

	a, b := grid(4, 64), of(2, grid(5, 64).Terms[:257]...)
	want := product(modelOf(a.Terms...), modelOf(b.Terms[:256]...))
	is(t, "256 by 256", want.poly(2))(Mul(a, of(2, b.Terms[:256]...)))
	fails(t, "256 by 257", api.ErrLimit)(Mul(a, b))
	fails(t, "257 by 256", api.ErrLimit)(Mul(b, a))
	fails(t, "198 by 331, which is 65538", api.ErrLimit)(Mul(grid(11, 18), of(2, grid(4, 100).Terms[:331]...)))
	fails(t, "256 by 257, on the way", api.ErrLimit)(Mul(of(2, term(dy(1, 0), 0, 0)), a, b, of(2)))
	fails(t, "300 squared", api.ErrLimit)(Pow(grid(15, 20), 2))
	is(t, "300, once", grid(15, 20))(Pow(grid(15, 20), 1))
}

// ErrLimit of exponents, in each variable; nought has none.
func TestMulExponents(t *testing.T) {
	for i := range 3 {
		power := func(n byte) api.Poly {
			exps := []byte{1, 2, 3}
			exps[i] = n
			return of(3, term(dy(1, 0), 0, 0, 0), term(dy(1, 0), exps...))
		}
		fails(t, "128", api.ErrLimit)(Mul(power(64), power(64)))
		fails(t, "254", api.ErrLimit)(Mul(power(127), power(127)))
		fails(t, "128", api.ErrLimit)(Mul(power(1), power(127)))
		fails(t, "129, times nought", api.ErrLimit)(Mul(power(2), power(127), of(3)))
		is(t, "nought", of(3))(Mul(power(127), of(3), power(127)))
		fails(t, "128 as a power", api.ErrLimit)(Pow(power(64), 2))
		fails(t, "129 as a power", api.ErrLimit)(Pow(power(43), 3))
		want := product(modelOf(power(64).Terms...), modelOf(power(63).Terms...))
		is(t, "127", want.poly(3))(Mul(power(64), power(63)))
	}
	is(t, "127 in another variable", of(2, term(dy(1, 0), 127, 127)))(Mul(of(2, term(dy(1, 0), 127, 0)), of(2, term(dy(1, 0), 0, 127))))
	is(t, "x to the 127", of(1, term(dy(1, 0), 127)))(Pow(of(1, term(dy(1, 0), 1)), 127))
	is(t, "x^42 to the 3", of(1, term(dy(1, 0), 126)))(Pow(of(1, term(dy(1, 0), 42)), 3))
}

// An answer's terms are counted when those whose sum is nought are gone.
func TestMulGathers(t *testing.T) {
	p := grid(32, 127)
	step := of(2, term(dy(1, 0), 0, 0), term(dy(-1, 0), 1, 0))
	want := of(2)
	for j := range 127 {
		want.Terms = append(want.Terms, term(dy(1, 0), 0, byte(j)))
	}
	for j := range 127 {
		want.Terms = append(want.Terms, term(dy(-1, 0), 32, byte(j)))
	}
	is(t, "1 - x^32, by a row", want)(Mul(p, step))
	is(t, "1 - x^32, by a row", want)(Mul(step, p))
}

// P8.4
func TestDegs(t *testing.T) {
	for _, vars := range allVars() {
		for _, p := range samples(vars) {
			want := make([]int, vars)
			for _, x := range p.Terms {
				for i := range want {
					want[i] = max(want[i], int(x.Mono[i]))
				}
			}
			if degs := Degs(p); !slices.Equal(degs, want) {
				t.Errorf("Degs(%s): %v", tell(p), degs)
			}
		}
	}
	one := dy(1, 0)
	for _, x := range []struct {
		p    api.Poly
		want []int
	}{
		{of(0), nil},
		{of(0, term(one)), nil},
		{of(3), []int{0, 0, 0}},
		{of(2, term(one, 0, 127), term(one, 1, 0)), []int{1, 127}},
		{of(2, term(one, 0, 5), term(one, 3, 1), term(one, 4, 0)), []int{4, 5}},
		{grid(64, 64), []int{63, 63}},
	} {
		if degs := Degs(x.p); !slices.Equal(degs, x.want) {
			t.Errorf("Degs(%s): %v", tell(x.p), degs)
		}
	}
}

// P8.4, R4: term by term, each with its number.
func TestSame(t *testing.T) {
	for _, vars := range allVars() {
		l := samples(vars)
		for _, p := range l {
			for _, q := range l {
				if Same(p, q) != alike(p, q) {
					t.Errorf("%s and %s: %t", tell(p), tell(q), Same(p, q))
				}
			}
			copied := of(vars, slices.Clone(p.Terms)...)
			if !Same(p, copied) || Same(p, of(vars+1, p.Terms...)) {
				t.Errorf("%s and its copy", tell(p))
			}
		}
	}
	one := dy(1, 0)
	p := of(2, term(one, 0, 1), term(dy(-1, 0), 1, 0))
	for _, q := range []api.Poly{of(2), of(2, p.Terms[:1]...), of(2, p.Terms[1:]...), of(2, term(one, 0, 1), term(one, 1, 0)), of(2, term(one, 0, 1), term(dy(-1, 0), 1, 1)), of(2, term(one, 0, 1), term(dy(-1, 1), 1, 0)), of(2, p.Terms[0], p.Terms[1], term(one, 1, 1)), of(2, p.Terms[1], p.Terms[0]), of(3, p.Terms...)} {
		if Same(p, q) || Same(q, p) {
			t.Errorf("%s and %s", tell(p), tell(q))
		}
	}
	if !Same(of(1), api.Poly{Vars: 1, Terms: []api.Term{}}) || Same(of(0), of(1)) {
		t.Error("noughts")
	}
	raw := of(2, term(up("\x00\x04", -2), 0, 1), term(down("\x02", -1), 1, 0))
	if !Same(p, raw) || !Same(raw, p) || Check(raw) == api.OK {
		t.Error("raw numbers")
	}
}

// P8.5, R3: what is handed in stays, and the room behind it.
func TestStays(t *testing.T) {
	whole := []api.Term{term(dy(5, 0), 1, 1), term(dy(3, 0), 0, 1), term(up("\x04", 1), 1, 0), term(dy(7, 0), 0, 1), term(dy(9, 0), 0, 0), term(dy(11, 0), 0, 0)}
	was := slices.Clone(whole)
	is(t, "Make", of(2, term(dy(10, 0), 0, 1), term(dy(1, 3), 1, 0), term(dy(5, 0), 1, 1)))(Make(2, whole[:4]...))
	if !slices.Equal(whole, was) {
		t.Errorf("%#v, not %#v", whole, was)
	}
	p, q := grid(3, 3), grid(2, 4)
	all := []api.Poly{of(2, p.Terms[:5]...), of(2, q.Terms[:6]...), of(2, p.Terms[2:4]...), of(7), of(8)}
	terms := [][]api.Term{slices.Clone(p.Terms), slices.Clone(q.Terms)}
	for _, do := range []func(...api.Poly) (api.Poly, api.Errno){Add, Mul} {
		if _, e := do(all[:3]...); e != api.OK {
			t.Error(e)
		}
	}
	Scale(all[0], dy(3, 0))
	Pow(all[1], 3)
	Degs(all[0])
	Same(all[0], all[1])
	Check(all[2])
	if !slices.Equal(p.Terms, terms[0]) || !slices.Equal(q.Terms, terms[1]) || !alike(all[3], of(7)) || !alike(all[4], of(8)) || len(all[0].Terms) != 5 {
		t.Error("what was handed in is changed")
	}
}

// inside says whether a string lies in another one's memory.
func inside(s, all string) bool {
	at, begin := uintptr(unsafe.Pointer(unsafe.StringData(s))), uintptr(unsafe.Pointer(unsafe.StringData(all)))
	return s != "" && at >= begin && at < begin+uintptr(len(all))
}

// shares says whether a polynomial has memory of these terms.
func shares(p api.Poly, l []api.Term) bool {
	for i := range p.Terms {
		for j := range l {
			a, b := &p.Terms[i], &l[j]
			if a == b || inside(a.Mono, b.Mono) || inside(a.C.M.Mag, b.C.M.Mag) {
				return true
			}
		}
	}
	return false
}

// P8.5: what is answered is new memory, also where it is what was handed in.
func TestNewMemory(t *testing.T) {
	var l []api.Term
	for i := range 9 {
		l = append(l, api.Term{Mono: strings.Repeat(string([]byte{byte(i)}), 3), C: up(strings.Clone("\x01\x02\x03\x05"), i)})
	}
	p := of(3, l...)
	one, _ := Const(3, dy(1, 0))
	zero := of(3)
	for what, call := range map[string]func() (api.Poly, api.Errno){
		"Make":         func() (api.Poly, api.Errno) { return Make(3, l...) },
		"Make of one":  func() (api.Poly, api.Errno) { return Make(3, l[:1]...) },
		"Add of one":   func() (api.Poly, api.Errno) { return Add(p) },
		"Add ahead":    func() (api.Poly, api.Errno) { return Add(p, zero) },
		"Add behind":   func() (api.Poly, api.Errno) { return Add(zero, zero, p) },
		"Add of parts": func() (api.Poly, api.Errno) { return Add(of(3, l[5:]...), of(3, l[:5]...)) },
		"Mul of one":   func() (api.Poly, api.Errno) { return Mul(p) },
		"Mul by one":   func() (api.Poly, api.Errno) { return Mul(p, one) },
		"Mul of two":   func() (api.Poly, api.Errno) { return Mul(one, p) },
		"Scale":        func() (api.Poly, api.Errno) { return Scale(p, dy(1, 0)) },
		"Pow":          func() (api.Poly, api.Errno) { return Pow(p, 1) },
	} {
		q, e := call()
		if e != api.OK || len(q.Terms) == 0 || shares(q, l) || shares(q, one.Terms) {
			t.Errorf("%s: %s, %d", what, tell(q), e)
		}
	}
	c := up(strings.Clone("\x01\x02\x03\x05"), 2)
	if q, _ := Const(3, c); shares(q, []api.Term{{C: c}}) {
		t.Error("Const")
	}
	a, _ := Var(3, 1)
	a.Terms[0].C = dy(7, 0)
	is(t, "Var", of(3, term(dy(1, 0), 0, 1, 0)))(Var(3, 1))
	degs := Degs(p)
	degs[0] = 99
	if Degs(p)[0] != 8 {
		t.Error("Degs")
	}
}

// answer is what a call answers without an error.
func answer(t *testing.T) func(p api.Poly, e api.Errno) api.Poly {
	return func(p api.Poly, e api.Errno) api.Poly {
		t.Helper()
		if e != api.OK || Check(p) != api.OK {
			t.Errorf("%s: %d, %d", tell(p), e, Check(p))
		}
		return p
	}
}

// P8.6, P8.7
func TestRing(t *testing.T) {
	get := answer(t)
	for _, vars := range allVars() {
		l := samples(vars)
		for i, p := range l {
			for j, q := range l {
				o := l[(7*i+11*j+2)%len(l)]
				is(t, "a sum turned round", get(Add(p, q)))(Add(q, p))
				is(t, "a product turned round", get(Mul(p, q)))(Mul(q, p))
				is(t, "a sum by steps", get(Add(p, q, o)))(Add(get(Add(o, q)), p))
				is(t, "a product by steps", get(Mul(p, q, o)))(Mul(p, get(Mul(q, o))))
				is(t, "a product of a sum", get(Add(get(Mul(p, o)), get(Mul(q, o)))))(Mul(get(Add(p, q)), o))
				less := get(Scale(q, dy(-1, 0)))
				is(t, "added and taken away", p)(Add(p, q, less))
				is(t, "nothing left", of(vars))(Add(q, less))
				is(t, "by a number", get(Scale(p, dy(3, -2))))(Mul(get(Const(vars, dy(3, -2))), p))
			}
			is(t, "a square", get(Mul(p, p)))(Pow(p, 2))
			is(t, "a third power", get(Mul(p, p, p)))(Pow(p, 3))
			is(t, "made again", p)(Make(vars, p.Terms...))
		}
	}
}

// P8.7, R1, R2: whatever is handed in, there is an answer that may be, or an error and nothing else.
func TestAny(t *testing.T) {
	r := rand.New(rand.NewSource(4))
	junk := func() api.Poly {
		p := of(r.Intn(4) - 1)
		for range r.Intn(3) {
			mono := make([]byte, max(0, p.Vars+r.Intn(5)/4))
			for i := range mono {
				mono[i] = byte(r.Intn(130))
			}
			mag := string([]byte{byte(r.Intn(2)), byte(r.Intn(8))}[r.Intn(2):])
			c := api.Num{M: api.Int{Neg: r.Intn(3) == 0, Mag: mag}, E: []int{0, 1, -1, 70, math.MaxInt, math.MinInt}[r.Intn(6)]}
			p.Terms = append(p.Terms, api.Term{Mono: string(mono), C: c})
		}
		return p
	}
	sound := func(what string, p api.Poly, e api.Errno) {
		t.Helper()
		if e == api.OK && Check(p) != api.OK || e != api.OK && (p.Vars != 0 || len(p.Terms) != 0) {
			t.Errorf("%s: %s, %d", what, tell(p), e)
		}
	}
	for range 30000 {
		p, q := junk(), junk()
		both := max(Check(p), Check(q)) == api.OK && p.Vars == q.Vars
		sum, e := Add(p, q)
		sound("Add", sum, e)
		if (e == api.OK) != both {
			t.Errorf("Add(%s, %s): %d", tell(p), tell(q), e)
		}
		times, e := Mul(p, q)
		sound("Mul", times, e)
		if (e == api.ErrArg) == both {
			t.Errorf("Mul(%s, %s): %d", tell(p), tell(q), e)
		}
		made, e := Make(p.Vars, append(p.Terms, q.Terms...)...)
		sound("Make", made, e)
		power, e := Pow(p, r.Intn(8)-2)
		sound("Pow", power, e)
		c, e := Const(p.Vars, api.Num{M: api.Int{Mag: "\x02"}, E: math.MaxInt})
		sound("Const", c, e)
		if len(Degs(p)) != 0 && Check(p) != api.OK || !Same(p, p) {
			t.Errorf("Degs, Same: %s", tell(p))
		}
	}
}

// R7: numbers of 4096 bytes, and the Es' ends.
func TestGreat(t *testing.T) {
	long := up(strings.Repeat("\xff", 2047)+"\xfd", -16384)
	far := down(strings.Repeat("\x01", 2048), 16384)
	p := of(2, term(long, 0, 3), term(dy(1, -16000), 1, 1), term(far, 5, 0))
	q := of(2, term(far, 0, 3), term(dy(-3, 16384), 2, 2), term(long, 5, 0))
	a, b := modelOf(p.Terms...), modelOf(q.Terms...)
	is(t, "a sum", plus(a, b).poly(2))(Add(p, q))
	is(t, "a product", product(a, b).poly(2))(Mul(p, q))
	is(t, "a square", product(a, a).poly(2))(Pow(p, 2))
	is(t, "by a number", product(a, modelOf(term(long, 0, 0))).poly(2))(Scale(p, long))
}
