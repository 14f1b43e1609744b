package calc

import (
	"fmt"
	"maps"
	"math"
	"math/big"
	"math/rand"
	"slices"
	"strings"
	"testing"
	"unsafe"

	"ogee/api"
	"ogee/poly"
)

// up and down: the number of that size above 0, below it, times 2^e. They needn't be in the one form.
func up(mag string, e int) api.Num   { return api.Num{M: api.Int{Mag: mag}, E: e} }
func down(mag string, e int) api.Num { return api.Num{M: api.Int{Neg: true, Mag: mag}, E: e} }

// dy: m times 2^e, in the one form.
func dy(m int64, e int) api.Num {
	n := new(big.Int).Abs(big.NewInt(m))
	return num(rat(api.Num{M: api.Int{Neg: m < 0, Mag: string(n.Bytes())}, E: e}))
}

// term is a number with the product of these exponents; of is the polynomial with these terms, as they stand.
func term(c api.Num, exps ...byte) api.Term { return api.Term{Mono: string(exps), C: c} }

func of(vars int, l ...api.Term) api.Poly { return api.Poly{Vars: vars, Terms: l} }

// rat and num: the library's fractions are what answers are held against. num tells the one form.
func rat(a api.Num) *big.Rat {
	n := new(big.Int).SetBytes([]byte(a.M.Mag))
	if a.M.Neg {
		n.Neg(n)
	}
	if a.E >= 0 {
		return new(big.Rat).SetInt(n.Lsh(n, uint(a.E)))
	}
	return new(big.Rat).SetFrac(n, new(big.Int).Lsh(big.NewInt(1), uint(-a.E)))
}

func num(r *big.Rat) api.Num {
	if r.Sign() == 0 {
		return api.Num{}
	}
	zeros := r.Num().TrailingZeroBits()
	mag := new(big.Int).Rsh(new(big.Int).Abs(r.Num()), zeros)
	return api.Num{M: api.Int{Neg: r.Sign() < 0, Mag: string(mag.Bytes())}, E: int(zeros) - r.Denom().BitLen() + 1}
}

// model is a polynomial as a map: what stands with each product. It has no limits, unless limited asks for them.
type model map[string]*big.Rat

func (m model) add(mono string, c *big.Rat) {
	if m[mono] == nil {
		m[mono] = new(big.Rat)
	}
	m[mono].Add(m[mono], c)
	if m[mono].Sign() == 0 {
		delete(m, mono)
	}
}

func modelOf(l ...api.Term) model {
	m := model{}
	for _, t := range l {
		m.add(t.Mono, rat(t.C))
	}
	return m
}

// poly is the model as a polynomial that may be.
func (m model) poly(vars int) api.Poly {
	p := of(vars)
	for _, mono := range slices.Sorted(maps.Keys(m)) {
		p.Terms = append(p.Terms, api.Term{Mono: mono, C: num(m[mono])})
	}
	return p
}

func plus(l ...model) model {
	m := model{}
	for _, a := range l {
		for mono, c := range a {
			m.add(mono, c)
		}
	}
	return m
}

// product answers the product of two, and whether all is within the limits of one multiplication.
func product(a, b model) (model, bool) {
	m, ok := model{}, len(a)*len(b) <= 65536
	for x, c := range a {
		for y, d := range b {
			exps := []byte(x)
			for i := range exps {
				exps[i] += y[i]
				ok = ok && exps[i] <= 127
			}
			m.add(string(exps), new(big.Rat).Mul(c, d))
		}
	}
	return m, ok && len(m) <= 4096
}

// power is a number's power, by the library.
func power(x *big.Rat, n int) *big.Rat {
	e := big.NewInt(int64(n))
	return new(big.Rat).SetFrac(new(big.Int).Exp(x.Num(), e, nil), new(big.Int).Exp(x.Denom(), e, nil))
}

// valueOf is what Eval should answer.
func valueOf(p api.Poly, x []api.Num) api.Num {
	sum := new(big.Rat)
	for _, t := range p.Terms {
		c := rat(t.C)
		for i := range x {
			c.Mul(c, power(rat(x[i]), int(t.Mono[i])))
		}
		sum.Add(sum, c)
	}
	return num(sum)
}

// slopeOf is what Derive should answer, faceOf what Face should.
func slopeOf(p api.Poly, which int) api.Poly {
	m := model{}
	for _, t := range p.Terms {
		if n := t.Mono[which]; n > 0 {
			exps := []byte(t.Mono)
			exps[which]--
			m.add(string(exps), new(big.Rat).Mul(rat(t.C), big.NewRat(int64(n), 1)))
		}
	}
	return m.poly(p.Vars)
}

func faceOf(p api.Poly, which int, at api.Num) api.Poly {
	m := model{}
	for _, t := range p.Terms {
		exps := slices.Delete([]byte(t.Mono), which, which+1)
		m.add(string(exps), new(big.Rat).Mul(rat(t.C), power(rat(at), int(t.Mono[which]))))
	}
	return m.poly(p.Vars - 1)
}

// horner is P9.3's rule, step by step, with the limits of each: what comes of the terms, which are alike ahead of a variable, and whether nothing on the way is beyond a limit.
func horner(vars int, terms []api.Term, which int, l []model) (model, bool) {
	if which == len(l) {
		m := model{}
		for _, t := range terms {
			m.add(string(make([]byte, vars)), rat(t.C))
		}
		return m, true
	}
	sum := model{}
	for n := 127; n >= 0; n-- {
		var alike []api.Term
		for _, t := range terms {
			if int(t.Mono[which]) == n {
				alike = append(alike, t)
			}
		}
		sum2, ok := product(sum, l[which])
		if !ok {
			return nil, false
		}
		sum = sum2
		if len(alike) == 0 {
			continue
		}
		more, ok := horner(vars, alike, which+1, l)
		if !ok {
			return nil, false
		}
		if sum = plus(sum, more); len(sum) > 4096 {
			return nil, false
		}
	}
	return sum, true
}

// putIn holds what Subst answers against horner.
func putIn(t *testing.T, p api.Poly, l ...api.Poly) (api.Poly, api.Errno) {
	t.Helper()
	vars := 0
	var models []model
	for _, q := range l {
		vars = q.Vars
		models = append(models, modelOf(q.Terms...))
	}
	what := fmt.Sprintf("Subst(%s) of %s", tell(p), tell(l...))
	want, ok := horner(vars, p.Terms, 0, models)
	if !ok {
		fails(t, what, api.ErrLimit)(Subst(p, l...))
		return api.Poly{}, api.ErrLimit
	}
	is(t, what, want.poly(vars))(Subst(p, l...))
	return want.poly(vars), api.OK
}

// vary makes polynomials that may be of what chance (the same each time) says: terms, at most, with exponents up to most.
func vary(r *rand.Rand, vars, terms int, most int) api.Poly {
	m := model{}
	for range r.Intn(terms + 1) {
		exps := make([]byte, vars)
		for i := range exps {
			exps[i] = byte(r.Intn(most + 1))
		}
		m.add(string(exps), rat(dy(int64(r.Intn(2001)-1000)<<r.Intn(20), r.Intn(80)-40)))
	}
	return m.poly(vars)
}

// samples are polynomials that may be in so many variables: nought, numbers, variables, some at the edges, and what chance makes.
func samples(vars int) []api.Poly {
	zeros, ones := make([]byte, vars), []byte(strings.Repeat("\x01", vars))
	l := []api.Poly{of(vars), of(vars, term(dy(1, 0), zeros...)), of(vars, term(dy(-5, -3), zeros...)), of(vars, term(dy(7, 300), ones...))}
	for i := range min(vars, 3) {
		x := slices.Clone(zeros)
		x[i] = 1
		l = append(l, of(vars, term(dy(1, 0), x...)), of(vars, term(dy(-1, 0), zeros...), term(dy(1, 0), x...)))
		x = slices.Clone(x)
		x[i] = 127
		l = append(l, of(vars, term(dy(3, -2), x...)))
	}
	r := rand.New(rand.NewSource(int64(vars)))
	for range 6 {
		l = append(l, vary(r, vars, 4, 2), vary(r, vars, 9, 7), vary(r, vars, 5, 127))
	}
	return l
}

// numbers are numbers in any form: noughts, small ones, long ones.
func numbers() []api.Num {
	return []api.Num{
		{}, up("\x00\x00", 3), down("", -5), dy(1, 0), up("\x00\x02", -1), dy(-1, 0), down("\x04", -2),
		dy(3, 0), dy(-7, -3), up("\x00\x0c", 3), down("\xff\x00", -70), up("\x01\x02\x03\x04\x05\x06\x07\x08\x09", -40), dy(1, 200), dy(-1, -200),
	}
}

// points are rows of numbers, each number in each place of some of them.
func points(vars int) [][]api.Num {
	l := numbers()
	var all [][]api.Num
	for i := range l {
		x := make([]api.Num, vars)
		for j := range x {
			x[j] = l[(i+3*j+i*j)%len(l)]
		}
		all = append(all, x)
	}
	return all
}

// allVars are the counts of variables that samples are made of.
func allVars() []int { return []int{0, 1, 2, 3, 12} }

// grid is the polynomial with all products of powers of two variables below x, below y, each with 1.
func grid(x, y int) api.Poly {
	p := of(2)
	for i := range x {
		for j := range y {
			p.Terms = append(p.Terms, term(dy(1, 0), byte(i), byte(j)))
		}
	}
	return p
}

// first is the polynomial with so many of the terms of another one.
func first(n int, p api.Poly) api.Poly { return of(p.Vars, p.Terms[:n]...) }

// less is a polynomial, turned round.
func less(p api.Poly) api.Poly {
	q, _ := poly.Scale(p, dy(-1, 0))
	return q
}

// variables are all of so many, as polynomials.
func variables(vars int) []api.Poly {
	var l []api.Poly
	for i := range vars {
		x, _ := poly.Var(vars, i)
		l = append(l, x)
	}
	return l
}

func alike(p, q api.Poly) bool {
	return p.Vars == q.Vars && slices.Equal(p.Terms, q.Terms)
}

// The checks hold an answer against what it should be. tell makes a short text of polynomials.
func tell(l ...api.Poly) string {
	var b strings.Builder
	for _, p := range l {
		if len(p.Terms) > 9 {
			fmt.Fprintf(&b, "%d terms in %d; ", len(p.Terms), p.Vars)
			continue
		}
		fmt.Fprintf(&b, "in %d:", p.Vars)
		for _, t := range p.Terms {
			fmt.Fprintf(&b, " %v %v 2^%d", []byte(t.Mono), rat(api.Num{M: t.C.M}).Num(), t.C.E)
		}
		b.WriteString("; ")
	}
	return b.String()
}

func is(t *testing.T, what string, want api.Poly) func(p api.Poly, e api.Errno) {
	t.Helper()
	return func(p api.Poly, e api.Errno) {
		t.Helper()
		if e != api.OK || !alike(p, want) {
			t.Errorf("%s: %s, %d; not %s", what, tell(p), e, tell(want))
		}
	}
}

func isNum(t *testing.T, what string, want api.Num) func(a api.Num, e api.Errno) {
	t.Helper()
	return func(a api.Num, e api.Errno) {
		t.Helper()
		if e != api.OK || a != want {
			t.Errorf("%s: %#v, %d; not %#v", what, a, e, want)
		}
	}
}

// fails and failsNum say that there is that error, and nothing else.
func fails(t *testing.T, what string, want api.Errno) func(p api.Poly, e api.Errno) {
	t.Helper()
	return func(p api.Poly, e api.Errno) {
		t.Helper()
		if e != want || p.Vars != 0 || len(p.Terms) != 0 {
			t.Errorf("%s: %s, %d; not error %d", what, tell(p), e, want)
		}
	}
}

func failsNum(t *testing.T, what string, want api.Errno) func(a api.Num, e api.Errno) {
	t.Helper()
	return func(a api.Num, e api.Errno) {
		t.Helper()
		if e != want || a != (api.Num{}) {
			t.Errorf("%s: %#v, %d; not error %d", what, a, e, want)
		}
	}
}

// xxy2 is x x y + 2, of two variables.
func xxy2() api.Poly { return of(2, term(dy(2, 0), 0, 0), term(dy(1, 0), 2, 1)) }

// The chapter's examples, row by row.
func TestExamples(t *testing.T) {
	isNum(t, "Eval(x x y + 2, 3, -1)", dy(-7, 0))(Eval(xxy2(), dy(3, 0), dy(-1, 0)))

	is(t, "Derive(x x y + 2, 0)", of(2, term(dy(2, 0), 1, 1)))(Derive(xxy2(), 0))
	is(t, "Derive(x x y + 2, 1)", of(2, term(dy(1, 0), 2, 0)))(Derive(xxy2(), 1))

	xx := of(1, term(dy(1, 0), 2))
	sum := of(2, term(dy(1, 0), 0, 1), term(dy(1, 0), 1, 0))
	is(t, "Subst(x x, x + y)", of(2, term(dy(1, 0), 0, 2), term(dy(2, 0), 1, 1), term(dy(1, 0), 2, 0)))(Subst(xx, sum))

	is(t, "Face(x x y + 2, 0, 3)", of(1, term(dy(2, 0), 0), term(dy(9, 0), 1)))(Face(xxy2(), 0, dy(3, 0)))

	failsNum(t, "Eval(x y, 1)", api.ErrArg)(Eval(of(2, term(dy(1, 0), 1, 1)), dy(1, 0)))
	fails(t, "Derive(1, 0) of none", api.ErrArg)(Derive(of(0, term(dy(1, 0))), 0))
}

// P9.1, R4
func TestEval(t *testing.T) {
	for _, vars := range allVars() {
		for _, p := range samples(vars) {
			for _, x := range points(vars) {
				isNum(t, fmt.Sprintf("Eval(%s) at %#v", tell(p), x), valueOf(p, x))(Eval(p, x...))
			}
		}
	}
	isNum(t, "nought of none", api.Num{})(Eval(of(0)))
	isNum(t, "a number", dy(-3, 5))(Eval(of(0, term(dy(-3, 5)))))
	isNum(t, "what is taken away again", api.Num{})(Eval(of(1, term(dy(-4, 0), 0), term(dy(1, 0), 2)), dy(-2, 0)))
	isNum(t, "nought to the 0", dy(1, 0))(Eval(of(1, term(dy(1, 0), 0), term(dy(5, 0), 3)), api.Num{}))
	isNum(t, "each number for its variable", dy(2*3*3*5*5*5, 0))(Eval(of(3, term(dy(1, 0), 1, 2, 3)), dy(2, 0), dy(3, 0), dy(5, 0)))
	isNum(t, "all powers", up(strings.Repeat("\xff", 16), 0))(Eval(allPowers(), dy(2, 0)))
	isNum(t, "a grid", dy(1, 12))(Eval(grid(64, 64), dy(1, 0), dy(1, 0)))
}

// allPowers is 1 + x + .. + x^127.
func allPowers() api.Poly {
	p := of(1)
	for i := range 128 {
		p.Terms = append(p.Terms, term(dy(1, 0), byte(i)))
	}
	return p
}

// P9.1, R7: numbers as long, and Es as far out, as all is promised of.
func TestEvalFar(t *testing.T) {
	long := up(strings.Repeat("\xff", 4096), -7)
	for _, x := range []api.Num{long, down(strings.Repeat("\xab", 2048), 9), dy(1, 32768), dy(-1, -32768), dy(3, 16384), up("\x00\x04", 32766)} {
		for _, p := range []api.Poly{of(1, term(dy(1, 0), 1)), of(1, term(dy(-5, 0), 0), term(dy(1, 0), 1)), of(1, term(dy(1, 0), 0), term(dy(3, -1), 2))} {
			isNum(t, tell(p), valueOf(p, []api.Num{x}))(Eval(p, x))
		}
	}
	fraction := of(2, term(long, 0, 0), term(dy(1, -32768), 1, 0), term(dy(1, 32768), 1, 1))
	for _, x := range [][]api.Num{{dy(1, 32768), dy(1, -32768)}, {dy(7, 1), dy(-1, -32768)}, {{}, long}} {
		isNum(t, "far", valueOf(fraction, x))(Eval(fraction, x...))
	}
}

// R1: beyond what is promised, a call comes to its end.
func TestEnds(t *testing.T) {
	for _, e := range []int{math.MinInt, math.MinInt + 1, -1 << 40, 1 << 40, math.MaxInt - 1, math.MaxInt} {
		for _, x := range []api.Num{up("\x01", e), down("\x03", e), up("\x00\x08", e), up("", e)} {
			far := of(2, term(dy(1, 0), 0, 0), term(dy(-3, 5), 3, 127))
			Eval(far, x, x)
			Eval(far, dy(3, 0), x)
			Face(far, 0, x)
			Face(far, 1, x)
			p := of(1, term(dy(1, 0), 0), api.Term{Mono: "\x05", C: x})
			Eval(p, x)
			Face(p, 0, x)
			Derive(p, 0)
			Subst(p, p)
			Subst(far, p, p)
		}
	}
}

// P9.2
func TestDerive(t *testing.T) {
	for _, vars := range allVars() {
		for _, p := range samples(vars) {
			for which := range vars {
				is(t, fmt.Sprintf("Derive(%s, %d)", tell(p), which), slopeOf(p, which))(Derive(p, which))
			}
		}
	}
	want := of(1)
	for i := range 127 {
		want.Terms = append(want.Terms, term(dy(int64(i+1), 0), byte(i)))
	}
	is(t, "all powers", want)(Derive(allPowers(), 0))
	for which := range 2 {
		is(t, "a grid", slopeOf(grid(64, 64), which))(Derive(grid(64, 64), which))
	}
	is(t, "all greatest powers", of(3, term(dy(127, 0), 127, 126, 127)))(Derive(of(3, term(dy(1, 0), 127, 127, 127)), 1))
	is(t, "a number", of(3))(Derive(of(3, term(dy(1, 0), 0, 0, 0)), 2))
	is(t, "another variable", of(2))(Derive(of(2, term(dy(1, 0), 5, 0)), 1))
	is(t, "an even power", of(1, term(dy(3, 5), 31)))(Derive(of(1, term(dy(3, 0), 32)), 0))
}

// P9.2, R4
func TestFace(t *testing.T) {
	for _, vars := range allVars() {
		for _, p := range samples(vars) {
			for which := range vars {
				for _, at := range numbers() {
					is(t, fmt.Sprintf("Face(%s, %d, %#v)", tell(p), which, at), faceOf(p, which, at))(Face(p, which, at))
				}
			}
		}
	}
	p := of(3, term(dy(1, 0), 1, 2, 3))
	is(t, "the others move up", of(2, term(dy(2, 0), 2, 3)))(Face(p, 0, dy(2, 0)))
	is(t, "the others move up", of(2, term(dy(4, 0), 1, 3)))(Face(p, 1, dy(2, 0)))
	is(t, "the last one goes", of(2, term(dy(8, 0), 1, 2)))(Face(p, 2, dy(2, 0)))
	is(t, "a number is left", of(0, term(dy(1, 127))))(Face(of(1, term(dy(1, 0), 127)), 0, dy(2, 0)))
	is(t, "nothing is left", of(0))(Face(of(1, term(dy(-2, 0), 0), term(dy(1, 0), 1)), 0, up("\x04", -1)))
	is(t, "at nought", of(1, term(dy(5, 0), 3)))(Face(of(2, term(dy(5, 0), 0, 3), term(dy(7, 0), 1, 4)), 0, down("\x00", 9)))
	is(t, "terms come together", of(1, term(dy(3, 0), 1)))(Face(of(2, term(dy(1, 0), 0, 1), term(dy(1, 0), 1, 1), term(dy(1, 0), 2, 1)), 0, dy(1, 0)))
	is(t, "terms go", of(1, term(dy(1, 0), 0)))(Face(of(2, term(dy(1, 0), 0, 0), term(dy(1, 0), 0, 1), term(dy(1, 0), 1, 1)), 0, dy(-1, 0)))
	row := of(1)
	for i := range 64 {
		row.Terms = append(row.Terms, term(dy(1, 6), byte(i)))
	}
	is(t, "a grid, upward", row)(Face(grid(64, 64), 0, dy(1, 0)))
	is(t, "a grid, along", row)(Face(grid(64, 64), 1, dy(1, 0)))
	long := up(strings.Repeat("\xff", 4096), -32768)
	is(t, "a long number", faceOf(xxy2(), 1, long))(Face(xxy2(), 1, long))
}

// P9.3: against Horner's rule, told step by step, whose limits are often met.
func TestSubst(t *testing.T) {
	for _, vars := range []int{1, 2, 3} {
		for _, into := range allVars() {
			r := rand.New(rand.NewSource(int64(100*vars + into)))
			all, met := samples(into), map[api.Errno]int{}
			for range 150 {
				l := make([]api.Poly, vars)
				for i := range l {
					l[i] = all[r.Intn(len(all))]
				}
				_, e := putIn(t, vary(r, vars, 5, 1+r.Intn(6)), l...)
				met[e]++
			}
			if met[api.OK] < 20 || into > 0 && met[api.ErrLimit] < 10 {
				t.Errorf("%d into %d: %v", vars, into, met)
			}
		}
	}
}

// P9.3: variables put in for variables: the same; in another order; more of them; all the same one.
func TestSubstVariables(t *testing.T) {
	for _, vars := range allVars() {
		for _, p := range samples(vars) {
			what, x := tell(p), variables(vars)
			if vars == 0 {
				is(t, what, p)(Subst(p))
				continue
			}
			is(t, what, p)(Subst(p, x...))
			slices.Reverse(x)
			turned := model{}
			for _, s := range p.Terms {
				exps := []byte(s.Mono)
				slices.Reverse(exps)
				turned.add(string(exps), rat(s.C))
			}
			is(t, what, turned.poly(vars))(Subst(p, x...))
			if vars < 12 {
				more := of(vars + 1)
				for _, s := range p.Terms {
					more.Terms = append(more.Terms, api.Term{Mono: "\x00" + s.Mono, C: s.C})
				}
				is(t, what, more)(Subst(p, variables(vars + 1)[1:]...))
			}
		}
	}
	y := of(1, term(dy(1, 0), 1))
	is(t, "all the same", of(1, term(dy(2, 0), 2), term(dy(1, 0), 3)))(Subst(of(2, term(dy(1, 0), 0, 2), term(dy(1, 0), 1, 1), term(dy(1, 0), 2, 1)), y, y))
	is(t, "a grid", grid(64, 64))(Subst(grid(64, 64), variables(2)...))
}

// P9.3: how many variables the answer has.
func TestSubstVars(t *testing.T) {
	for into := range 13 {
		zeros, ones := make([]byte, into), []byte(strings.Repeat("\x01", into))
		number, xyz := of(into, term(dy(3, -1), zeros...)), of(into, term(dy(2, 0), ones...))
		for vars := 1; vars < 13; vars++ {
			l := slices.Repeat([]api.Poly{xyz}, vars)
			is(t, "nought", of(into))(Subst(of(vars), l...))
			is(t, "a number", number)(Subst(of(vars, term(dy(3, -1), make([]byte, vars)...)), l...))
			is(t, "a variable", xyz)(Subst(variables(vars)[vars-1], l...))
			is(t, "noughts", of(into))(Subst(variables(vars)[0], slices.Repeat([]api.Poly{of(into)}, vars)...))
		}
	}
	is(t, "nought of none", of(0))(Subst(of(0)))
	is(t, "a number of none", of(0, term(dy(-3, 7))))(Subst(of(0, term(dy(-3, 7)))))
	is(t, "an empty list", of(0, term(dy(-3, 7))))(Subst(of(0, term(dy(-3, 7))), []api.Poly{}...))
}

// P9.3: exponents above 127, also on the way: what would be taken away again, and what a nought takes away in time.
func TestSubstExponents(t *testing.T) {
	y := func(n byte) api.Poly { return of(1, term(dy(1, 0), n)) }
	x := func(n byte) api.Poly { return of(1, term(dy(1, 0), n)) }
	is(t, "127", y(127))(Subst(x(127), y(1)))
	is(t, "127", y(127))(Subst(x(1), y(127)))
	is(t, "126", y(126))(Subst(x(63), y(2)))
	is(t, "126", y(126))(Subst(x(2), y(63)))
	fails(t, "128", api.ErrLimit)(Subst(x(64), y(2)))
	fails(t, "128", api.ErrLimit)(Subst(x(2), y(64)))
	fails(t, "129", api.ErrLimit)(Subst(x(3), y(43)))
	fails(t, "127 by 127", api.ErrLimit)(Subst(x(127), y(127)))
	is(t, "nought to the 127", of(1))(Subst(x(127), of(1)))
	is(t, "2 to the 127", of(1, term(dy(1, 127), 0)))(Subst(x(127), of(1, term(dy(2, 0), 0))))

	squares := of(2, term(dy(-1, 0), 0, 2), term(dy(1, 0), 2, 0))
	is(t, "x x - y y, of 63", of(1))(Subst(squares, y(63), y(63)))
	fails(t, "x x - y y, of 64", api.ErrLimit)(Subst(squares, y(64), y(64)))
	fails(t, "x x - y y, the second one too great", api.ErrLimit)(Subst(squares, y(1), y(64)))

	apart := of(3, term(dy(1, 0), 1, 0, 1), term(dy(1, 0), 1, 1, 0))
	is(t, "x (y + z), of 100, 50 and -50", of(1))(Subst(apart, y(100), y(50), less(y(50))))
	fails(t, "x (y + z), of 100, 50 and 50", api.ErrLimit)(Subst(apart, y(100), y(50), y(50)))
	ahead := of(3, term(dy(1, 0), 0, 1, 1), term(dy(1, 0), 1, 0, 1))
	fails(t, "x z + y z, of 50, -50 and 100", api.ErrLimit)(Subst(ahead, y(50), less(y(50)), y(100)))
	is(t, "x z + y z, of 27, -27 and 100", of(1))(Subst(ahead, y(27), less(y(27)), y(100)))
}

// P9.3: terms that are multiplied, and an answer's, one by one, as Horner's rule makes them.
func TestSubstTerms(t *testing.T) {
	z := func(vars int, exps ...byte) api.Poly { return of(vars, term(dy(1, 0), exps...)) }
	xx := z(1, 2)
	is(t, "256 squared", square(grid(16, 16)))(Subst(xx, grid(16, 16)))
	fails(t, "257 squared", api.ErrLimit)(Subst(xx, first(257, grid(16, 17))))
	is(t, "4096, once", grid(64, 64))(Subst(z(1, 1), grid(64, 64)))
	is(t, "64 by 64", grid(64, 64))(Subst(z(2, 1, 1), grid(64, 1), grid(1, 64)))
	fails(t, "64 by 65", api.ErrLimit)(Subst(z(2, 1, 1), grid(64, 1), grid(1, 65)))
	fails(t, "65 by 64", api.ErrLimit)(Subst(z(2, 1, 1), grid(65, 1), grid(1, 64)))
	fails(t, "64 by 65, taken away again", api.ErrLimit)(Subst(of(3, term(dy(-1, 0), 0, 1, 1), term(dy(1, 0), 1, 0, 1)), grid(64, 1), grid(64, 1), grid(1, 65)))

	apart := of(3, term(dy(1, 0), 1, 0, 1), term(dy(1, 0), 1, 1, 0))
	is(t, "4096 by nought", of(2))(Subst(apart, grid(64, 64), grid(17, 1), less(grid(17, 1))))
	fails(t, "17 by 4096", api.ErrLimit)(Subst(of(3, term(dy(1, 0), 0, 1, 1), term(dy(1, 0), 1, 0, 1)), grid(17, 1), less(grid(17, 1)), grid(64, 64)))

	sum := of(3, term(dy(1, 0), 0, 0, 1), term(dy(1, 0), 0, 1, 0), term(dy(1, 0), 1, 0, 0))
	more, rest := z(2, 64, 0), of(2, grid(64, 64).Terms[1:]...)
	is(t, "4096, and what is nought together", grid(64, 64))(Subst(sum, grid(64, 64), more, less(more)))
	fails(t, "4097, and one taken away again", api.ErrLimit)(Subst(sum, less(more), more, grid(64, 64)))
	fails(t, "4097, and one taken away again", api.ErrLimit)(Subst(sum, less(more), grid(64, 64), more))
	is(t, "4096, and one taken away", rest)(Subst(sum, less(more), rest, more))
	fails(t, "4095 and two", api.ErrLimit)(Subst(sum, rest, more, z(2, 0, 0)))
	is(t, "4095 and one", grid(64, 64))(Subst(sum, rest, of(2), z(2, 0, 0)))

	product := of(3, term(dy(1, 0), 0, 0, 1), term(dy(1, 0), 1, 1, 0))
	is(t, "64 by 64, less one", rest)(Subst(product, grid(64, 1), grid(1, 64), less(z(2, 0, 0))))
	fails(t, "64 by 64, and one", api.ErrLimit)(Subst(product, grid(64, 1), grid(1, 64), more))
}

func square(p api.Poly) api.Poly {
	m, _ := product(modelOf(p.Terms...), modelOf(p.Terms...))
	return m.poly(p.Vars)
}

// trinomial is 1 + x + y to the power n.
func trinomial(n int64) api.Poly {
	p := of(2)
	for i := range n + 1 {
		for j := range n - i + 1 {
			c := new(big.Int).Binomial(n, i)
			c.Mul(c, new(big.Int).Binomial(n-i, j))
			p.Terms = append(p.Terms, term(num(new(big.Rat).SetInt(c)), byte(i), byte(j)))
		}
	}
	return p
}

// P9.3: powers are made one by one, also across variables: by halves, or each by itself, they would be beyond the limits.
func TestSubstPowers(t *testing.T) {
	xy := trinomial(1)
	is(t, "1 + x + y to the 89", trinomial(89))(Subst(of(1, term(dy(1, 0), 89)), xy))
	fails(t, "1 + x + y to the 90", api.ErrLimit)(Subst(of(1, term(dy(1, 0), 90)), xy))
	is(t, "to the 44, to the 45", trinomial(89))(Subst(of(2, term(dy(1, 0), 44, 45)), xy, xy))
	fails(t, "to the 45, to the 45", api.ErrLimit)(Subst(of(2, term(dy(1, 0), 45, 45)), xy, xy))
	fails(t, "to the 90, times nought behind it", api.ErrLimit)(Subst(of(2, term(dy(1, 0), 1, 90)), of(2), xy))
	is(t, "to the 90, times nought ahead of it", of(2))(Subst(of(2, term(dy(1, 0), 90, 1)), xy, of(2)))

	three, want := of(1, term(dy(3, 0), 0), term(dy(-1, 0), 5), term(dy(1, 0), 40)), trinomial(40)
	for _, x := range trinomial(5).Terms {
		i := slices.IndexFunc(want.Terms, func(y api.Term) bool { return y.Mono == x.Mono })
		want.Terms[i].C = num(new(big.Rat).Sub(rat(want.Terms[i].C), rat(x.C)))
	}
	want.Terms[0].C = dy(3, 0)
	is(t, "3, less the power 5, and the power 40", want)(Subst(three, xy))

	y := func(n byte) api.Poly { return of(1, term(dy(1, 0), n)) }
	gone := of(3, term(dy(1, 0), 1, 0, 1), term(dy(1, 0), 2, 1, 0))
	is(t, "what is gone on the way", of(1))(Subst(gone, y(60), y(10), less(y(70))))
	fails(t, "what is not gone on the way", api.ErrLimit)(Subst(gone, y(60), y(10), y(70)))
	again := of(3, term(dy(5, 0), 0, 0, 0), term(dy(1, 0), 1, 0, 0), term(dy(1, 0), 2, 0, 1), term(dy(1, 0), 3, 1, 0))
	is(t, "what comes behind what is gone", of(1, term(dy(5, 0), 0), term(dy(1, 0), 60)))(Subst(again, y(60), y(10), less(y(70))))
}

// wrong are polynomials that may not be, with the error of each.
func wrong() map[string]struct {
	p api.Poly
	e api.Errno
} {
	one := dy(1, 0)
	type bad = struct {
		p api.Poly
		e api.Errno
	}
	return map[string]bad{
		"13 variables":          {of(13), api.ErrArg},
		"13 variables, a term":  {of(13, term(one, make([]byte, 13)...)), api.ErrArg},
		"-1 variables":          {of(-1), api.ErrArg},
		"the least int":         {of(math.MinInt), api.ErrArg},
		"2^32 more variables":   {of(1<<32+2, term(one, 0, 1)), api.ErrArg},
		"many terms":            {first(4097, grid(64, 65)), api.ErrLimit},
		"many noughts":          {of(1, slices.Repeat([]api.Term{term(api.Num{}, 0)}, 5000)...), api.ErrLimit},
		"the same product":      {of(1, term(one, 1), term(one, 1)), api.ErrArg},
		"products that fall":    {of(2, term(one, 1, 0), term(one, 0, 1)), api.ErrArg},
		"a product of none":     {of(1, term(one)), api.ErrArg},
		"a product of two":      {of(1, term(one, 0), term(one, 1, 0)), api.ErrArg},
		"an exponent above 127": {of(2, term(one, 0, 128)), api.ErrArg},
		"a rune":                {of(2, api.Term{Mono: "\u00e9", C: one}), api.ErrArg},
		"a nought":              {of(1, term(api.Num{}, 0)), api.ErrArg},
		"an even M":             {of(1, term(up("\x02", 0), 0)), api.ErrArg},
		"a byte 0 ahead":        {of(0, term(up("\x00\x01", 0))), api.ErrArg},
	}
}

// Of a polynomial that may not be, each call answers Check's error, whatever else is wrong.
func TestWrongPolynomials(t *testing.T) {
	one, x := dy(1, 0), of(1, term(dy(1, 0), 1))
	many := first(4097, grid(64, 65))
	for what, bad := range wrong() {
		for _, row := range [][]api.Num{nil, {one}, {one, {}}, slices.Repeat([]api.Num{one}, 13)} {
			failsNum(t, "Eval of "+what, bad.e)(Eval(bad.p, row...))
		}
		for _, which := range []int{-1, 0, 1, 2, 13, math.MinInt, math.MaxInt} {
			fails(t, "Derive of "+what, bad.e)(Derive(bad.p, which))
			fails(t, "Face of "+what, bad.e)(Face(bad.p, which, one))
		}
		for _, l := range [][]api.Poly{nil, {x}, {x, x}, {x, of(2)}, {many}, {many, many}, {of(13)}, slices.Repeat([]api.Poly{x}, 13)} {
			fails(t, "Subst of "+what, bad.e)(Subst(bad.p, l...))
		}
	}
}

// Of a polynomial that is put in and may not be, Subst answers Check's error, whether it matters or not; of several the first one's.
func TestWrongPutIn(t *testing.T) {
	one := dy(1, 0)
	many, raw := first(4097, grid(64, 65)), of(2, term(up("\x02", 0), 1, 1))
	for what, bad := range wrong() {
		for _, p := range []api.Poly{of(1), of(1, term(one, 0)), of(1, term(one, 1)), allPowers()} {
			fails(t, what, bad.e)(Subst(p, bad.p))
		}
		for _, p := range []api.Poly{of(2), of(2, term(one, 0, 0)), of(2, term(one, 1, 0)), of(2, term(one, 0, 1)), xxy2()} {
			for vars := range 13 {
				fails(t, what+" ahead", bad.e)(Subst(p, bad.p, of(vars)))
				fails(t, what+" behind", bad.e)(Subst(p, of(vars), bad.p))
			}
			fails(t, what+" twice", bad.e)(Subst(p, bad.p, bad.p))
			fails(t, what+" ahead of many terms", bad.e)(Subst(p, bad.p, many))
			fails(t, what+" ahead of a raw number", bad.e)(Subst(p, bad.p, raw))
			fails(t, what+" behind many terms", api.ErrLimit)(Subst(p, many, bad.p))
			fails(t, what+" behind a raw number", api.ErrArg)(Subst(p, raw, bad.p))
		}
	}
}

// ErrArg: not as many numbers, or polynomials, as variables; no such variable.
func TestWrongCounts(t *testing.T) {
	one, x := dy(1, 0), of(1, term(dy(1, 0), 1))
	many := first(4097, grid(64, 65))
	for vars := range 13 {
		for _, p := range []api.Poly{of(vars), of(vars, term(one, make([]byte, vars)...)), of(vars, term(one, []byte(strings.Repeat("\x7f", vars))...))} {
			for n := range 15 {
				if n == vars {
					continue
				}
				failsNum(t, tell(p), api.ErrArg)(Eval(p, slices.Repeat([]api.Num{one}, n)...))
				fails(t, tell(p), api.ErrArg)(Subst(p, slices.Repeat([]api.Poly{x}, n)...))
				fails(t, tell(p), api.ErrArg)(Subst(p, slices.Repeat([]api.Poly{many}, n)...))
			}
			for _, which := range []int{-1, -2, vars, vars + 1, 12, 13, 127, 128, 1 << 32, -1 << 32, math.MinInt, math.MaxInt} {
				fails(t, tell(p), api.ErrArg)(Derive(p, which))
				fails(t, tell(p), api.ErrArg)(Face(p, which, one))
				fails(t, tell(p), api.ErrArg)(Face(p, which, api.Num{}))
			}
		}
	}
}

// ErrArg: polynomials of unlike many variables that are put in; ahead of what is beyond a limit.
func TestUnlikePutIn(t *testing.T) {
	one := dy(1, 0)
	for _, p := range []api.Poly{of(3), of(3, term(one, 0, 0, 0)), of(3, term(one, 1, 0, 0)), of(3, term(one, 3, 3, 3)), of(3, term(one, 127, 127, 127))} {
		for _, l := range [][]api.Poly{{of(1), of(1), of(2)}, {of(1), of(2), of(1)}, {of(2), of(1), of(1)}, {of(0), of(12), of(0)}, {of(0), of(1), of(2)}, {grid(64, 64), grid(64, 64), of(1)}, {of(3), grid(64, 64), grid(64, 64)}} {
			fails(t, tell(p)+"of "+tell(l...), api.ErrArg)(Subst(p, l...))
		}
	}
	fails(t, "alike", api.ErrLimit)(Subst(of(3, term(one, 3, 3, 3)), grid(64, 64), grid(64, 64), of(2, term(one, 0, 0))))
}

// P9.4, R3: what is handed in stays, and the room behind it.
func TestStays(t *testing.T) {
	p, q := grid(3, 3), grid(2, 4)
	terms := [][]api.Term{slices.Clone(p.Terms), slices.Clone(q.Terms)}
	x := append(make([]api.Num, 0, 5), up("\x00\x06", 1), down("\x04", -2), dy(3, 0), dy(5, 0), dy(7, 0))
	numbers := slices.Clone(x)
	l := append(make([]api.Poly, 0, 4), first(5, p), first(6, q), of(7), of(8))
	if _, e := Eval(l[0], x[:2]...); e != api.OK {
		t.Error(e)
	}
	for which := range 2 {
		Derive(l[0], which)
		Face(l[1], which, x[which])
	}
	if _, e := Subst(l[1], l[:2]...); e != api.OK {
		t.Error(e)
	}
	Subst(l[0], l[:3]...)
	if !slices.Equal(p.Terms, terms[0]) || !slices.Equal(q.Terms, terms[1]) || !slices.Equal(x, numbers) {
		t.Error("what was handed in is changed")
	}
	if len(l[0].Terms) != 5 || len(l[1].Terms) != 6 || !alike(l[2], of(7)) || !alike(l[3], of(8)) {
		t.Error("a list that was handed in is changed")
	}
}

// inside says whether a string lies in another one's memory.
func inside(s, all string) bool {
	at, begin := uintptr(unsafe.Pointer(unsafe.StringData(s))), uintptr(unsafe.Pointer(unsafe.StringData(all)))
	return s != "" && at >= begin && at < begin+uintptr(len(all))
}

// shares says whether a polynomial has memory of these terms.
func shares(p api.Poly, l []api.Term) bool {
	for i := range p.Terms {
		for j := range l {
			a, b := &p.Terms[i], &l[j]
			if a == b || inside(a.Mono, b.Mono) || inside(a.C.M.Mag, b.C.M.Mag) {
				return true
			}
		}
	}
	return false
}

// P9.4: what is answered is new memory, also where it is what was handed in.
func TestNewMemory(t *testing.T) {
	long := func(e int) api.Num { return up(strings.Clone("\x01\x02\x03\x05"), e) }
	at := []api.Num{long(0), long(1), long(-2)}
	number, variable := of(3, term(long(7), 0, 0, 0)), of(3, term(dy(1, 0), 0, 1, 0))
	p := of(3, term(long(3), 0, 0, 0), term(long(4), 0, 1, 0), term(long(5), 1, 0, 1), term(long(6), 1, 1, 2))
	for what, call := range map[string]func() (api.Poly, api.Errno){
		"Derive":                   func() (api.Poly, api.Errno) { return Derive(p, 1) },
		"Derive of one":            func() (api.Poly, api.Errno) { return Derive(of(3, p.Terms[1]), 1) },
		"Face at 1":                func() (api.Poly, api.Errno) { return Face(p, 0, dy(1, 0)) },
		"Face of a number":         func() (api.Poly, api.Errno) { return Face(number, 2, at[0]) },
		"Face of a variable":       func() (api.Poly, api.Errno) { return Face(variable, 1, at[0]) },
		"Subst":                    func() (api.Poly, api.Errno) { return Subst(p, variables(3)...) },
		"Subst of a number":        func() (api.Poly, api.Errno) { return Subst(number, p, p, p) },
		"Subst of a variable":      func() (api.Poly, api.Errno) { return Subst(variable, number, p, number) },
		"Subst of a variable of 1": func() (api.Poly, api.Errno) { return Subst(of(1, term(dy(1, 0), 1)), p) },
	} {
		q, e := call()
		given := slices.Concat(p.Terms, number.Terms, variable.Terms)
		for _, a := range at {
			given = append(given, api.Term{C: a})
		}
		if e != api.OK || len(q.Terms) == 0 || shares(q, given) {
			t.Errorf("%s: %s, %d", what, tell(q), e)
		}
	}
	none := of(0, term(long(1)))
	if q, e := Subst(none); e != api.OK || shares(q, none.Terms) {
		t.Error("Subst of none")
	}
	for i, q := range []api.Poly{number, of(3, term(dy(1, 0), 1, 0, 0)), variable, of(3, term(dy(1, 0), 0, 0, 1))} {
		a, e := Eval(q, at...)
		if e != api.OK || a == (api.Num{}) {
			t.Error(e)
		}
		for _, b := range append(at, number.Terms[0].C) {
			if inside(a.M.Mag, b.M.Mag) {
				t.Errorf("Eval %d", i)
			}
		}
	}
}

// P9.5: the value of a sum, a product, of what was put in, of a face, is that of the values.
func TestValues(t *testing.T) {
	for _, vars := range []int{1, 2, 3} {
		r := rand.New(rand.NewSource(int64(vars)))
		for _, x := range slices.Concat(points(vars), points(vars)) {
			p, q := vary(r, vars, 9, 6), vary(r, vars, 9, 6)
			a, b := rat(valueOf(p, x)), rat(valueOf(q, x))
			sum, _ := poly.Add(p, q)
			isNum(t, "a sum", num(new(big.Rat).Add(a, b)))(Eval(sum, x...))
			product, _ := poly.Mul(p, q)
			isNum(t, "a product", num(new(big.Rat).Mul(a, b)))(Eval(product, x...))

			l, values := make([]api.Poly, vars), make([]api.Num, vars)
			for i := range l {
				l[i] = vary(r, vars, 3, 2)
				values[i] = valueOf(l[i], x)
			}
			put, e := Subst(p, l...)
			if e != api.OK {
				t.Fatal(e)
			}
			isNum(t, "what was put in", valueOf(p, values))(Eval(put, x...))

			for which := range vars {
				face, _ := Face(p, which, x[which])
				isNum(t, "a face", num(a))(Eval(face, slices.Delete(slices.Clone(x), which, which+1)...))
			}
		}
	}
}

// P9.6: slopes of sums, of products; by two variables, in either order.
func TestSlopes(t *testing.T) {
	slope := func(p api.Poly, which int) api.Poly {
		q, e := Derive(p, which)
		if e != api.OK {
			t.Error(e)
		}
		return q
	}
	for _, vars := range []int{1, 2, 3, 12} {
		r := rand.New(rand.NewSource(int64(vars)))
		for range 40 {
			p, q := vary(r, vars, 9, 9), vary(r, vars, 9, 9)
			sum, _ := poly.Add(p, q)
			product, _ := poly.Mul(p, q)
			for i := range vars {
				dp, dq := slope(p, i), slope(q, i)
				is(t, "a sum", slope(sum, i))(poly.Add(dp, dq))
				one, _ := poly.Mul(dp, q)
				other, _ := poly.Mul(p, dq)
				is(t, "a product", slope(product, i))(poly.Add(one, other))
				for j := range vars {
					is(t, "either order", slope(dp, j))(Derive(slope(p, j), i))
				}
			}
		}
	}
}
