package bern

import (
	"fmt"
	"math"
	"math/big"
	"math/rand"
	"slices"
	"strings"
	"testing"
	"unsafe"

	"ogee/api"
	"ogee/box"
	"ogee/calc"
	"ogee/mono"
	"ogee/poly"
)

// up and down: the number of that size above 0, below it, times 2^e. They needn't be in the one form.
func up(mag string, e int) api.Num   { return api.Num{M: api.Int{Mag: mag}, E: e} }
func down(mag string, e int) api.Num { return api.Num{M: api.Int{Neg: true, Mag: mag}, E: e} }

// dy: m times 2^e, in the one form; ints: whole numbers.
func dy(m int64, e int) api.Num {
	n := new(big.Int).Abs(big.NewInt(m))
	return num(rat(api.Num{M: api.Int{Neg: m < 0, Mag: string(n.Bytes())}, E: e}))
}

func ints(l ...int64) []api.Num {
	var row []api.Num
	for _, n := range l {
		row = append(row, dy(n, 0))
	}
	return row
}

// rat and num: the library's fractions are what answers are held against. num tells the one form.
func rat(a api.Num) *big.Rat {
	n := new(big.Int).SetBytes([]byte(a.M.Mag))
	if a.M.Neg {
		n.Neg(n)
	}
	if a.E >= 0 {
		return new(big.Rat).SetInt(n.Lsh(n, uint(a.E)))
	}
	return new(big.Rat).SetFrac(n, new(big.Int).Lsh(big.NewInt(1), uint(-a.E)))
}

func num(r *big.Rat) api.Num {
	if r.Sign() == 0 {
		return api.Num{}
	}
	zeros := r.Num().TrailingZeroBits()
	mag := new(big.Int).Rsh(new(big.Int).Abs(r.Num()), zeros)
	return api.Num{M: api.Int{Neg: r.Sign() < 0, Mag: string(mag.Bytes())}, E: int(zeros) - r.Denom().BitLen() + 1}
}

func rats(l []api.Num) []*big.Rat {
	var row []*big.Rat
	for _, a := range l {
		row = append(row, rat(a))
	}
	return row
}

func times(l ...*big.Rat) *big.Rat {
	product := big.NewRat(1, 1)
	for _, a := range l {
		product.Mul(product, a)
	}
	return product
}

func power(x *big.Rat, n int) *big.Rat {
	e := big.NewInt(int64(n))
	return new(big.Rat).SetFrac(new(big.Int).Exp(x.Num(), e, nil), new(big.Int).Exp(x.Denom(), e, nil))
}

// ways is in how many ways i of d things are taken.
func ways(d, i int) *big.Rat {
	if i < 0 || i > d {
		return new(big.Rat)
	}
	return new(big.Rat).SetInt(new(big.Int).Binomial(int64(d), int64(i)))
}

// form, term, of, to: a form with these degrees and numbers; a number with the product of these exponents; the polynomial with these terms; a box of whole numbers, two an axis.
func form(deg []int, c ...api.Num) api.Form { return api.Form{Deg: deg, C: c} }

func term(c api.Num, exps ...byte) api.Term { return api.Term{Mono: string(exps), C: c} }

func of(vars int, l ...api.Term) api.Poly { return api.Poly{Vars: vars, Terms: l} }

func to(l ...int64) api.Box {
	var b api.Box
	for i := 0; i < len(l); i += 2 {
		b = append(b, api.Span{Lo: dy(l[i], 0), Hi: dy(l[i+1], 0)})
	}
	return b
}

// degs is the same degree for so many axes.
func degs(n, d int) []int { return slices.Repeat([]int{d}, n) }

// rows are all rows of indices of these degrees, in order.
func rows(deg []int) [][]int {
	l := [][]int{nil}
	for _, d := range deg {
		var longer [][]int
		for _, row := range l {
			for i := range d + 1 {
				longer = append(longer, append(slices.Clone(row), i))
			}
		}
		l = longer
	}
	return l
}

// at answers where a row of indices stands among all of these degrees.
func at(deg, row []int) int {
	place := 0
	for i := range deg {
		place = place*(deg[i]+1) + row[i]
	}
	return place
}

// stands is what a form stands for at these t's, by the chapter's own words.
func stands(f api.Form, t []api.Num) api.Num {
	sum := new(big.Rat)
	shares := make([][]*big.Rat, len(t))
	for axis, d := range f.Deg {
		x := rat(t[axis])
		rest := new(big.Rat).Sub(big.NewRat(1, 1), x)
		for i := range d + 1 {
			shares[axis] = append(shares[axis], times(power(x, i), power(rest, d-i)))
		}
	}
	for k, row := range rows(f.Deg) {
		product := rat(f.C[k])
		for axis, i := range row {
			product.Mul(product, shares[axis][i])
		}
		sum.Add(sum, product)
	}
	return num(sum)
}

// formOf is what Of should answer. With s = 1 - t a variable is lo s + hi t, so its power k, times s + t as often as is missing to d, has with t^i s^(d-i) what stands here.
func formOf(p api.Poly, b api.Box, deg []int) api.Form {
	share := func(axis, k, i int) *big.Rat {
		lo, hi, d := rat(b[axis].Lo), rat(b[axis].Hi), deg[axis]
		sum := new(big.Rat)
		for j := range k + 1 {
			sum.Add(sum, times(ways(k, j), power(lo, k-j), power(hi, j), ways(d-k, i-j)))
		}
		return sum
	}
	f := form(slices.Clone(deg))
	known := map[[3]int]*big.Rat{}
	for _, row := range rows(deg) {
		sum := new(big.Rat)
		for _, t := range p.Terms {
			product := rat(t.C)
			for axis, i := range row {
				key := [3]int{axis, int(t.Mono[axis]), i}
				if known[key] == nil {
					known[key] = share(axis, key[1], i)
				}
				product.Mul(product, known[key])
			}
			sum.Add(sum, product)
		}
		f.C = append(f.C, num(sum))
	}
	return f
}

// backOf is what Back should answer: t times the width is x - lo, 1 - t times it is hi - x.
func backOf(f api.Form, b api.Box) api.Poly {
	share := func(axis, i, k int) *big.Rat { // what stands with x^k in (x - lo)^i (hi - x)^(d-i)
		lo, hi, d := rat(b[axis].Lo), rat(b[axis].Hi), f.Deg[axis]
		sum := new(big.Rat)
		for j := range i + 1 {
			if rest := d - i - (k - j); rest >= 0 && rest <= d-i {
				less := times(power(lo, i-j), power(big.NewRat(-1, 1), i-j+k-j))
				sum.Add(sum, times(ways(i, j), less, ways(d-i, k-j), power(hi, rest)))
			}
		}
		return sum
	}
	p := of(len(b))
	for _, exps := range rows(f.Deg) {
		sum := new(big.Rat)
		mono := make([]byte, len(exps))
		for k, row := range rows(f.Deg) {
			product := rat(f.C[k])
			for axis, i := range row {
				product.Mul(product, share(axis, i, exps[axis]))
				mono[axis] = byte(exps[axis])
			}
			sum.Add(sum, product)
		}
		if sum.Sign() != 0 {
			p.Terms = append(p.Terms, term(num(sum), mono...))
		}
	}
	return p
}

// slopeOf is what Derive should answer.
func slopeOf(f api.Form, axis int) api.Form {
	d := f.Deg[axis]
	if d == 0 {
		return form(f.Deg, make([]api.Num, len(f.C))...)
	}
	g := form(slices.Clone(f.Deg))
	g.Deg[axis]--
	for _, row := range rows(g.Deg) {
		i := row[axis]
		low := times(big.NewRat(int64(d-i), 1), rat(f.C[at(f.Deg, row)]))
		row[axis]++
		high := times(big.NewRat(int64(i+1), 1), rat(f.C[at(f.Deg, row)]))
		g.C = append(g.C, num(high.Sub(high, low)))
	}
	return g
}

// faceOf is what Face should answer.
func faceOf(f api.Form, axis, side int) api.Form {
	g := form(slices.Delete(slices.Clone(f.Deg), axis, axis+1))
	for _, row := range rows(g.Deg) {
		g.C = append(g.C, f.C[at(f.Deg, slices.Insert(row, axis, side*f.Deg[axis]))])
	}
	return g
}

// weightsOf is what Weights should answer, if there are such forms.
func weightsOf(deg []int) []api.Num {
	var l []api.Num
	for _, row := range rows(deg) {
		product := big.NewRat(1, 1)
		for axis, i := range row {
			product.Mul(product, ways(deg[axis], i))
		}
		l = append(l, num(product))
	}
	return l
}

// shapes are degrees of forms, of no axes up to twelve, that do not have many numbers.
func shapes() [][]int {
	return [][]int{
		nil, {0}, {1}, {2}, {3}, {7}, {0, 0}, {1, 2}, {2, 1}, {3, 0}, {0, 4}, {2, 2}, {1, 0, 2}, {2, 1, 1}, {0, 3, 0}, {1, 2, 3}, {1, 1, 1, 1}, {0, 1, 0, 2, 0},
		degs(12, 0), {0, 0, 1, 0, 0, 0, 2, 0, 0, 0, 0, 1},
	}
}

// vary is a number of what chance says: small or long ones, in the one form.
func vary(r *rand.Rand) api.Num {
	switch r.Intn(8) {
	case 0:
		return api.Num{}
	case 1:
		b := make([]byte, 1+r.Intn(20))
		r.Read(b)
		return num(rat(api.Num{M: api.Int{Neg: r.Intn(2) == 0, Mag: string(b)}, E: r.Intn(99) - 60}))
	}
	return dy(int64(r.Intn(41)-20), r.Intn(7)-3)
}

// forms are such with these degrees: noughts, weights, one number alone, and what chance (the same each time) makes.
func forms(deg []int) []api.Form {
	n := len(rows(deg))
	r := rand.New(rand.NewSource(int64(n)))
	alone := make([]api.Num, n)
	alone[n/2] = dy(-3, -1)
	counted := make([]api.Num, n)
	for i := range counted {
		counted[i] = dy(int64(i+1), 0)
	}
	l := []api.Form{form(deg, make([]api.Num, n)...), form(deg, weightsOf(deg)...), form(deg, alone...), form(deg, counted...)}
	for range 3 {
		c := make([]api.Num, n)
		for i := range c {
			c[i] = vary(r)
		}
		l = append(l, form(deg, c...))
	}
	return l
}

// boxes are such with so many axes, with room: from 0 on, to 0, around it, beside it, narrow, wide, raw, and of chance.
func boxes(n int) []api.Box {
	r := rand.New(rand.NewSource(int64(n)))
	low, up := func(i int) api.Num { return down("\x00\x0a", -i%3) }, func(i int) api.Num { return up("\x00\x00\x06", i%3) }
	var l []api.Box
	for _, do := range []func(i int) (lo, hi api.Num){
		func(i int) (lo, hi api.Num) { return dy(0, 0), dy(1, 0) },
		func(i int) (lo, hi api.Num) { return dy(0, 0), dy(int64(i+2), 0) },
		func(i int) (lo, hi api.Num) { return dy(-3, -i), api.Num{} },
		func(i int) (lo, hi api.Num) { return dy(-1, 0), dy(1, 0) },
		func(i int) (lo, hi api.Num) { return dy(int64(i+3), 0), dy(int64(2*i+5), 0) },
		func(i int) (lo, hi api.Num) { return dy(1<<40, -41), dy(1<<40+1, -41) },
		func(i int) (lo, hi api.Num) { return dy(-5, 60), dy(3, -60) },
		func(i int) (lo, hi api.Num) { return low(i), up(i) },
		func(i int) (lo, hi api.Num) { return down("\x00", 9), up(i) },
		func(i int) (lo, hi api.Num) {
			lo = vary(r)
			return lo, num(new(big.Rat).Add(rat(lo), rat(dy(int64(r.Intn(9)+1), r.Intn(9)-6))))
		},
	} {
		var b api.Box
		for i := range n {
			lo, hi := do(i)
			b = append(b, api.Span{Lo: lo, Hi: hi})
		}
		l = append(l, b)
	}
	return l
}

// some is a polynomial of what chance says, within these degrees.
func some(r *rand.Rand, deg []int) api.Poly {
	p := of(len(deg))
	for _, m := range mono.All(deg...) {
		if c := vary(r); c != (api.Num{}) && r.Intn(3) > 0 {
			p.Terms = append(p.Terms, api.Term{Mono: m, C: c})
		}
	}
	return p
}

// polys are polynomials within these degrees: nought, a number, the last product alone, all of them, and what chance makes.
func polys(deg []int) []api.Poly {
	all := mono.All(deg...)
	full := of(len(deg))
	for i, m := range all {
		full.Terms = append(full.Terms, api.Term{Mono: m, C: dy(int64(2*i+1), i%5-2)})
	}
	r := rand.New(rand.NewSource(int64(len(all))))
	last := api.Term{Mono: all[len(all)-1], C: dy(3, -1)}
	return []api.Poly{of(len(deg)), of(len(deg), api.Term{Mono: all[0], C: dy(-5, -3)}), of(len(deg), last), full, some(r, deg), some(r, deg)}
}

// points are rows of t's, some of them raw, each of them on each axis of some row.
func points(n int) [][]api.Num {
	l := []api.Num{{}, dy(1, 0), dy(1, -1), up("\x00\x06", -3), dy(-2, 0), dy(7, -2), up("\x00", 4), down("\x04", -2), dy(1, -70), up("\x04", -2)}
	var all [][]api.Num
	for i := range l {
		var t []api.Num
		for axis := range n {
			t = append(t, l[(i+3*axis)%len(l)])
		}
		all = append(all, t)
	}
	return all
}

// eachForm and eachPoly go through forms, and polynomials with a box, of each shape.
func eachForm(do func(f api.Form)) {
	for _, deg := range shapes() {
		for _, f := range forms(deg) {
			do(f)
		}
	}
}

func eachPoly(do func(p api.Poly, b api.Box)) {
	for _, deg := range shapes()[1:] {
		for _, p := range polys(deg) {
			for _, b := range boxes(len(deg)) {
				do(p, b)
			}
		}
	}
}

// The checks hold an answer against what it should be.
func alike[T any](a, b T) bool {
	switch a := any(a).(type) {
	case api.Form:
		b := any(b).(api.Form)
		return slices.Equal(a.Deg, b.Deg) && slices.Equal(a.C, b.C)
	case api.Poly:
		b := any(b).(api.Poly)
		return a.Vars == b.Vars && slices.Equal(a.Terms, b.Terms)
	}
	return any(a) == any(b)
}

// tell makes a text that is not too long.
func tell(l ...any) string {
	var s strings.Builder
	for _, a := range l {
		if f, ok := a.(api.Form); ok {
			fmt.Fprintf(&s, "a form of the degrees %v, %d numbers: ", f.Deg[:min(len(f.Deg), 13)], len(f.C))
			a = f.C[:min(len(f.C), 9)]
		}
		fmt.Fprintf(&s, "%v; ", a)
	}
	return fmt.Sprintf("%+q", s.String()[:min(s.Len(), 900)]) // as numbers have bytes of all kinds
}

func is[T any](t *testing.T, what string, want T) func(got T, e api.Errno) {
	t.Helper()
	return func(got T, e api.Errno) {
		t.Helper()
		if e != api.OK || !alike(got, want) {
			t.Errorf("%s: %s, %d; not %s", what, tell(got), e, tell(want))
		}
	}
}

// fails says that there is that error, and nothing else.
func fails[T any](t *testing.T, what string, want api.Errno) func(got T, e api.Errno) {
	t.Helper()
	return func(got T, e api.Errno) {
		t.Helper()
		var none T
		if e != want || !alike(got, none) {
			t.Errorf("%s: %s, %d; not error %d", what, tell(got), e, want)
		}
	}
}

func checks(t *testing.T, what string, f api.Form, want api.Errno) {
	t.Helper()
	if e := Check(f); e != want {
		t.Errorf("%s: Check: %d, not %d", what, e, want)
	}
}

func weighs(t *testing.T, want []api.Num, deg ...int) {
	t.Helper()
	if l := Weights(deg...); !slices.Equal(l, want) {
		t.Errorf("Weights of %v: %s; not %s", deg, tell(l), tell(want))
	}
}

// The chapter's examples, row by row.
func TestExamples(t *testing.T) {
	one := dy(1, 0)
	x := of(1, term(one, 1))
	is(t, "Of(x, 0 to 1)", form([]int{1}, ints(0, 1)...))(Of(x, to(0, 1)))
	is(t, "Of(x, 0 to 4)", form([]int{1}, ints(0, 4)...))(Of(x, to(0, 4)))
	is(t, "Of(x x, 0 to 2)", form([]int{2}, ints(0, 0, 4)...))(Of(of(1, term(one, 2)), to(0, 2)))
	is(t, "Of(3, 0 to 1, with degree 2)", form([]int{2}, ints(3, 6, 3)...))(Of(of(1, term(dy(3, 0), 0)), to(0, 1), 2))
	is(t, "Of(x y, 0 to 1, 0 to 1)", form([]int{1, 1}, ints(0, 0, 0, 1)...))(Of(of(2, term(one, 1, 1)), to(0, 1, 0, 1)))
	square := form([]int{2}, ints(0, 0, 4)...)
	is(t, "Eval(0 0 4; 1/2)", one)(Eval(square, dy(1, -1)))
	is(t, "Derive(0 0 4)", form([]int{1}, ints(0, 8)...))(Derive(square, 0))
	is(t, "Back(0 0 4; 0 to 2)", of(1, term(dy(4, 0), 2)))(Back(square, to(0, 2)))
	weighs(t, ints(1, 2, 1), 2)
	weighs(t, ints(1, 2, 1, 1, 2, 1), 1, 2)
}

// raws are numbers that are not in the one form.
func raws() []api.Num {
	return []api.Num{up("\x02", 0), up("\x00\x01", 0), up("\x03\x00", -8), down("\x00\x03", 1), up("", 1), up("", -1), down("", 0), up("\x00", 0), down("\x00", 3)}
}

// badDegs, badForm, badPoly: what may not be, with its error.
type badDegs struct {
	deg []int
	e   api.Errno
}

type badForm struct {
	f api.Form
	e api.Errno
}

type badPoly struct {
	p api.Poly
	e api.Errno
}

// wrongDegs are degrees that no form has.
func wrongDegs() []badDegs {
	l := []badDegs{
		{degs(13, 0), api.ErrArg}, {degs(13, 1), api.ErrArg}, {degs(13, 127), api.ErrArg}, {degs(99999, 0), api.ErrArg}, {append(degs(12, 127), -1), api.ErrArg},
		{[]int{63, 64}, api.ErrLimit}, {[]int{127, 32}, api.ErrLimit}, {[]int{127, 127}, api.ErrLimit}, {degs(12, 127), api.ErrLimit}, {degs(9, 127), api.ErrLimit}, {append(degs(11, 1), 2), api.ErrLimit}, {[]int{0, 15, 15, 16}, api.ErrLimit}, {[]int{2, 40, 40}, api.ErrLimit},
	}
	for _, d := range []int{-1, -2, 128, 129, 4096, 1 << 32, -1 << 32, math.MinInt, math.MaxInt} {
		for _, deg := range [][]int{{0}, {3}, {1, 2}, {127, 127}, {2, 127, 127, 0}, degs(12, 0), degs(12, 127)} {
			for i := range deg {
				wrong := slices.Clone(deg)
				wrong[i] = d
				l = append(l, badDegs{wrong, api.ErrArg})
			}
		}
	}
	return l
}

// wrongForms are forms that may not be.
func wrongForms() []badForm {
	var l []badForm
	zeros, even := make([]api.Num, 4160), slices.Repeat(raws()[:1], 4160)
	for _, c := range wrongDegs() {
		for _, n := range []int{0, 1, 4096, 4160} { // the numbers, raw or not, come behind
			l = append(l, badForm{form(c.deg, zeros[:n]...), c.e}, badForm{form(c.deg, even[:n]...), c.e})
		}
	}
	for _, deg := range shapes() {
		f := forms(deg)[3]
		more := append(slices.Clone(f.C), dy(1, 0))
		l = append(l, badForm{form(deg), api.ErrArg}, badForm{form(deg, f.C[1:]...), api.ErrArg}, badForm{form(deg, more...), api.ErrArg})
		l = append(l, badForm{form(append(slices.Clone(deg), 127), f.C...), api.ErrArg})
		for i := range min(len(f.C), 6) {
			for _, a := range raws() {
				c := slices.Clone(f.C)
				c[len(c)-1-i] = a
				l = append(l, badForm{form(deg, c...), api.ErrArg})
			}
		}
	}
	return l
}

// P12.1
func TestCheck(t *testing.T) {
	eachForm(func(f api.Form) { checks(t, tell(f), f, api.OK) })
	for _, c := range wrongForms() {
		checks(t, tell(c.f), c.f, c.e)
	}
	for _, deg := range crowded() {
		c := slices.Repeat([]api.Num{dy(-3, 7)}, len(rows(deg)))
		checks(t, tell(deg), form(deg, c...), api.OK)
		checks(t, tell(deg)+" and one less", form(deg, c[1:]...), api.ErrArg)
		checks(t, tell(deg)+" and one more", form(deg, append(c, c[0])...), api.ErrArg)
		for _, i := range []int{0, len(c) / 2, len(c) - 1} {
			spoilt := slices.Clone(c)
			spoilt[i] = up("\x06", 0)
			checks(t, tell(deg)+" and one raw", form(deg, spoilt...), api.ErrArg)
		}
	}
	checks(t, "no form", api.Form{}, api.ErrArg)
	checks(t, "no axes", form([]int{}, dy(7, 0)), api.OK)
	checks(t, "one degree, many numbers", form([]int{1}, make([]api.Num, 5000)...), api.ErrArg)
}

// P12.1
func TestOf(t *testing.T) {
	eachPoly(func(p api.Poly, b api.Box) {
		own := poly.Degs(p)
		is(t, "Of "+tell(p, b), formOf(p, b, own))(Of(p, b))
		is(t, "Of "+tell(p, b), formOf(p, b, own))(Of(p, b, own...))
		is(t, "Of "+tell(p, b), formOf(p, b, own))(Of(p, b, []int{}...))
		for k := range 3 {
			deg := slices.Clone(own)
			for i := range min(len(deg), 3) {
				deg[i] += (i + k) % 3
			}
			is(t, "Of "+tell(p, b, deg), formOf(p, b, deg))(Of(p, b, deg...))
		}
	})
	is(t, "nought", form([]int{0, 0}, ints(0)...))(Of(of(2), to(1, 2, 3, 4)))
	is(t, "nought, with degrees", form([]int{1, 2}, ints(0, 0, 0, 0, 0, 0)...))(Of(of(2), to(1, 2, 3, 4), 1, 2))
	is(t, "the last axis runs fastest", form([]int{1, 2}, ints(0, 0, 4, 0, 0, 12)...))(Of(of(2, term(dy(1, 0), 1, 2)), to(1, 3, 0, 2), 1, 2))
}

// crowded are degrees of which a form has as many numbers as there may be, or nearly.
func crowded() [][]int {
	return [][]int{{127}, {63, 63}, {127, 31}, {31, 127}, {15, 15, 15}, {7, 7, 7, 7}, {3, 3, 3, 3, 3, 3}, degs(12, 1), {0, 63, 0, 63, 0}}
}

// P12.1: as many numbers as there may be.
func TestOfMany(t *testing.T) {
	r := rand.New(rand.NewSource(3))
	for _, deg := range crowded() {
		n, p := len(deg), of(len(deg))
		all := mono.All(deg...)
		for i, m := range all {
			if i%917 == 0 || i == len(all)-1 {
				p.Terms = append(p.Terms, api.Term{Mono: m, C: dy(int64(r.Intn(99)+1), r.Intn(9)-4)})
			}
		}
		number, fives := of(n, term(dy(5, 0), make([]byte, n)...)), form(deg)
		for _, w := range weightsOf(deg) {
			fives.C = append(fives.C, num(times(rat(w), big.NewRat(5, 1))))
		}
		for _, b := range boxes(n)[1:3] {
			is(t, "Of "+tell(deg, b), formOf(p, b, deg))(Of(p, b))
			is(t, "Of a number, "+tell(deg), fives)(Of(number, b, deg...))
		}
	}
}

// wrongPolys are polynomials that may not be.
func wrongPolys() map[string]badPoly {
	one := dy(1, 0)
	many := of(2)
	for _, m := range mono.All(63, 64)[:4097] {
		many.Terms = append(many.Terms, api.Term{Mono: m, C: one})
	}
	return map[string]badPoly{
		"13 variables":          {of(13), api.ErrArg},
		"-1 variables":          {of(-1), api.ErrArg},
		"13, and many terms":    {of(13, many.Terms...), api.ErrArg},
		"many terms":            {many, api.ErrLimit},
		"falling":               {of(1, term(one, 1), term(one, 0)), api.ErrArg},
		"twice":                 {of(1, term(one, 1), term(one, 1)), api.ErrArg},
		"too many exponents":    {of(1, term(one, 1, 0)), api.ErrArg},
		"too few exponents":     {of(2, term(one, 1)), api.ErrArg},
		"an exponent above 127": {of(1, term(one, 128)), api.ErrArg},
		"a nought":              {of(1, term(api.Num{}, 0)), api.ErrArg},
		"an even M":             {of(1, term(up("\x02", 0), 0)), api.ErrArg},
		"a byte 0 ahead":        {of(2, term(up("\x00\x01", 0), 0, 1)), api.ErrArg},
	}
}

// Errors of Of, in the chapter's order.
func TestOfErrors(t *testing.T) {
	one := dy(1, 0)
	x := of(1, term(one, 1))
	for what, bad := range wrongPolys() {
		for _, b := range []api.Box{nil, to(0, 0), to(0, 1), to(0, 1, 0, 1), to(0, 1, 1, 0), slices.Repeat(to(0, 1), 13)} {
			for _, deg := range [][]int{nil, {0}, {1}, {-1}, {128}, {1, 1}, {127, 127}, degs(13, 127)} {
				fails[api.Form](t, what, bad.e)(Of(bad.p, b, deg...))
			}
		}
	}
	for _, p := range []api.Poly{of(0), of(0, term(one)), x, of(2), of(2, term(one, 127, 127)), of(12)} {
		for _, deg := range [][]int{nil, {0}, {1}, {-1}, {128}, {1, 1}, {127, 127}, degs(13, 127)} {
			fails[api.Form](t, "no axes", api.ErrArg)(Of(p, nil, deg...))
			for _, b := range []api.Box{to(0, 0), to(1, 0), to(0, 1, 3, 3), to(1, 0, 0, 1), append(slices.Repeat(to(0, 1), 40), to(3, 2)...)} {
				fails[api.Form](t, "no room", api.ErrFlat)(Of(p, b, deg...))
			}
		}
	}
	fails[api.Form](t, "no room, raw", api.ErrFlat)(Of(x, api.Box{{Lo: up("\x04", -2), Hi: up("\x00\x01", 0)}}))
	for vars := range 13 {
		p := of(vars, term(one, []byte(strings.Repeat("\x01", vars))...))
		for _, n := range []int{1, 2, 3, 11, 12, 13, 70} {
			for k := range 15 {
				if n == vars && (k == 0 || k == vars) {
					continue
				}
				fails[api.Form](t, fmt.Sprintf("%d variables, %d axes, %d degrees", vars, n, k), api.ErrArg)(Of(p, slices.Repeat(to(0, 1), n), degs(k, 1)...))
			}
		}
	}
	for _, p := range []api.Poly{of(2), of(2, term(one, 127, 127))} { // what does not fit goes ahead of too many numbers
		for _, n := range []int{1, 3, 12, 13} {
			fails[api.Form](t, "other axes", api.ErrArg)(Of(p, slices.Repeat(to(0, 1), n), 127, 127))
			fails[api.Form](t, "other axes", api.ErrArg)(Of(of(2, term(one, 127, 127)), slices.Repeat(to(0, 1), n)))
			fails[api.Form](t, "other degrees", api.ErrArg)(Of(p, to(0, 1, 0, 1), degs(n, 127)...))
		}
	}
	for vars := 1; vars < 13; vars++ {
		exps, b := []byte(strings.Repeat("\x01", vars)), slices.Repeat(to(-1, 2), vars)
		p := of(vars, term(one, exps...))
		for i := range vars {
			for _, d := range []int{0, -1, 128, 1 << 32, 1<<32 + 1, math.MinInt, math.MaxInt} {
				for _, other := range []int{1, 127} {
					deg := degs(vars, other)
					deg[i] = d
					fails[api.Form](t, tell("degrees", deg), api.ErrArg)(Of(p, b, deg...))
				}
			}
		}
		if vars > 1 {
			fails[api.Form](t, "too many numbers", api.ErrLimit)(Of(p, b, degs(vars, 127)...))
			fails[api.Form](t, "too many numbers of its own", api.ErrLimit)(Of(of(vars, term(one, []byte(strings.Repeat("\x7f", vars))...)), b))
		}
	}
	fails[api.Form](t, "one too many", api.ErrLimit)(Of(of(2), to(0, 1, 0, 1), 63, 64))
	fails[api.Form](t, "one too many", api.ErrLimit)(Of(of(2, term(one, 63, 0), term(one, 64, 63)), to(0, 1, 0, 1)))
}

// P12.2
func TestBack(t *testing.T) {
	eachForm(func(f api.Form) {
		if len(f.Deg) == 0 {
			return
		}
		for _, b := range boxes(len(f.Deg)) {
			is(t, "Back of "+tell(f, b), backOf(f, b))(Back(f, b))
		}
	})
	is(t, "of noughts", of(2))(Back(form([]int{1, 1}, ints(0, 0, 0, 0)...), to(2, 3, 4, 7)))
	is(t, "of 1, with degrees", of(2, term(dy(18, 0), 0, 0)))(Back(form([]int{1, 2}, weightsOf([]int{1, 2})...), to(0, 2, 5, 8)))
	is(t, "of each number its product", of(2, term(dy(1, 0), 0, 0), term(dy(-1, 0), 0, 1), term(dy(-1, 0), 1, 0), term(dy(1, 0), 1, 1)))(Back(form([]int{1, 1}, ints(1, 0, 0, 0)...), to(0, 1, 0, 1)))
}

// P12.2: as many numbers as there may be.
func TestBackMany(t *testing.T) {
	for _, deg := range [][]int{{127}, {127, 31}, {15, 15, 15}, {3, 3, 3, 3, 3, 3}, degs(12, 1), {0, 63, 0, 63, 0}} {
		n, volume := len(deg), big.NewRat(1, 1)
		b := boxes(n)[2]
		for axis, d := range deg {
			width := new(big.Rat).Sub(rat(b[axis].Hi), rat(b[axis].Lo))
			volume.Mul(volume, power(width, d))
		}
		is(t, "of 1 in "+tell(deg), of(n, term(num(volume), make([]byte, n)...)))(Back(form(deg, weightsOf(deg)...), b))
		for _, alone := range []int{0, len(rows(deg)) - 1} {
			c := make([]api.Num, len(rows(deg)))
			c[alone] = dy(-5, -1)
			f := form(deg, c...)
			p, e := Back(f, b)
			for _, x := range points(n)[:5] {
				is(t, "of one number in "+tell(deg), num(times(volume, rat(stands(f, x)))))(calc.Eval(p, box.Place(b, x)...))
			}
			if e != api.OK {
				t.Errorf("%v: %d", deg, e)
			}
		}
	}
}

// All calls but Of answer Check's error of a form that may not be, whatever else is wrong.
func TestWrongForms(t *testing.T) {
	for _, c := range wrongForms() {
		what := tell(c.f)
		for _, n := range []int{0, 1, len(c.f.Deg)} {
			fails[api.Poly](t, what, c.e)(Back(c.f, slices.Repeat(to(0, 1), min(n, 20))))
			fails[api.Num](t, what, c.e)(Eval(c.f, make([]api.Num, min(n, 20))...))
		}
		fails[api.Poly](t, what, c.e)(Back(c.f, to(1, 0)))
		for _, n := range []int{-1, 0, 1, 2, 13} {
			fails[api.Num](t, what, c.e)(Corner(c.f, n))
			fails[api.Form](t, what, c.e)(Face(c.f, n, 0))
			fails[api.Form](t, what, c.e)(Face(c.f, 0, n))
			fails[api.Form](t, what, c.e)(Derive(c.f, n))
		}
	}
}

// Errors of forms that may be: of the box, of counts, of axes, sides, corners.
func TestWrongArguments(t *testing.T) {
	far := []int{-1, -2, math.MinInt, math.MaxInt, 1 << 32, -1 << 32}
	eachForm(func(f api.Form) {
		n, what := len(f.Deg), tell(f)
		fails[api.Poly](t, what, api.ErrArg)(Back(f, nil))
		for k := 1; k < 15; k++ {
			b := slices.Repeat(to(0, 1), k)
			if k != n {
				fails[api.Poly](t, what, api.ErrArg)(Back(f, b))
			}
			b[k/2] = to(3, 3)[0]
			fails[api.Poly](t, what, api.ErrFlat)(Back(f, b))
			b[k/2] = to(3, 2)[0]
			fails[api.Poly](t, what, api.ErrFlat)(Back(f, b))
		}
		for k := range 15 {
			if k != n {
				fails[api.Num](t, what, api.ErrArg)(Eval(f, make([]api.Num, k)...))
			}
		}
		for _, bits := range append(far, 1<<n, 1<<n+1, 1<<13, 1<<62) {
			fails[api.Num](t, what, api.ErrArg)(Corner(f, bits))
		}
		for _, axis := range append(far, n, n+1, 12, 13) {
			for side := -1; side < 3; side++ {
				fails[api.Form](t, what, api.ErrArg)(Face(f, axis, side))
			}
			fails[api.Form](t, what, api.ErrArg)(Derive(f, axis))
		}
		for _, side := range append(far, 2, 3, 127) {
			for axis := range n {
				fails[api.Form](t, what, api.ErrArg)(Face(f, axis, side))
			}
		}
	})
}

// P12.3, R4: any t's, raw ones too.
func TestEval(t *testing.T) {
	eachForm(func(f api.Form) {
		for _, x := range points(len(f.Deg)) {
			is(t, "Eval of "+tell(f, x), stands(f, x))(Eval(f, x...))
		}
	})
	is(t, "each t for its axis", dy(-12, 0))(Eval(form([]int{1, 2}, ints(0, 0, 0, 0, 1, 0)...), ints(2, -2)...))
	for _, deg := range crowded() {
		f := form(deg, weightsOf(deg)...)
		for i := range f.C {
			f.C[i] = num(times(rat(f.C[i]), big.NewRat(int64(i%7-2), 4)))
		}
		for _, x := range points(len(deg))[:4] {
			is(t, "Eval of many", stands(f, x))(Eval(f, x...))
		}
	}
}

// P12.4
func TestCorner(t *testing.T) {
	eachForm(func(f api.Form) {
		for bits := range 1 << len(f.Deg) {
			row := make([]int, len(f.Deg))
			for axis, d := range f.Deg {
				row[axis] = d * (bits >> axis & 1)
			}
			is(t, fmt.Sprintf("the corner %b of %s", bits, tell(f)), f.C[at(f.Deg, row)])(Corner(f, bits))
		}
	})
	f := form([]int{1, 2}, ints(1, 2, 3, 4, 5, 6)...)
	for bits, want := range ints(1, 4, 3, 6) {
		is(t, "the corner", want)(Corner(f, bits))
	}
}

// P12.4
func TestFace(t *testing.T) {
	eachForm(func(f api.Form) {
		for axis := range f.Deg {
			for side := range 2 {
				is(t, fmt.Sprintf("Face %d, %d of %s", axis, side, tell(f)), faceOf(f, axis, side))(Face(f, axis, side))
			}
		}
	})
	f := form([]int{1, 2}, ints(1, 2, 3, 4, 5, 6)...)
	is(t, "the lower side", form([]int{2}, ints(1, 2, 3)...))(Face(f, 0, 0))
	is(t, "the upper side", form([]int{2}, ints(4, 5, 6)...))(Face(f, 0, 1))
	is(t, "the left side", form([]int{1}, ints(1, 4)...))(Face(f, 1, 0))
	is(t, "the right side", form([]int{1}, ints(3, 6)...))(Face(f, 1, 1))
	is(t, "of one axis", form(nil, ints(7)...))(Face(form([]int{0}, ints(7)...), 0, 1))
}

// P12.4
func TestDerive(t *testing.T) {
	eachForm(func(f api.Form) {
		for axis := range f.Deg {
			is(t, fmt.Sprintf("Derive %d of %s", axis, tell(f)), slopeOf(f, axis))(Derive(f, axis))
		}
	})
	f := form([]int{1, 2}, ints(1, 2, 3, 4, 5, 6)...)
	is(t, "along the first axis", form([]int{0, 2}, ints(3, 3, 3)...))(Derive(f, 0))
	is(t, "along the last axis", form([]int{1, 1}, ints(0, 4, -3, 7)...))(Derive(f, 1))
	is(t, "of a degree 0", form([]int{0, 1}, ints(0, 0)...))(Derive(form([]int{0, 1}, ints(5, 7)...), 0))
	is(t, "of 1", form([]int{2}, ints(0, 0, 0)...))(Derive(form([]int{3}, ints(1, 3, 3, 1)...), 0))
}

// P12.5
func TestWeights(t *testing.T) {
	for _, deg := range shapes() {
		weighs(t, weightsOf(deg), deg...)
	}
	for _, deg := range crowded() {
		weighs(t, weightsOf(deg), deg...)
	}
	for _, c := range wrongDegs() {
		weighs(t, nil, c.deg...)
	}
	weighs(t, ints(1))
	weighs(t, ints(1, 4, 6, 4, 1), 4)
	weighs(t, ints(1, 1, 2, 2, 1, 1), 2, 1)
}

// P12.6, R3: what is handed in stays, also in the room behind its end.
func TestStays(t *testing.T) {
	r := rand.New(rand.NewSource(9))
	for _, deg := range shapes()[1:] {
		n := len(deg)
		f := forms(deg)[3]
		c := append(slices.Clone(f.C), up("\x00behind", 1), down("\x00", 2))
		room := append(slices.Clone(deg), 127, -1)
		b := append(boxes(n)[7], to(3, 2, 1, 1)...)
		x := append(slices.Clone(points(n)[6]), up("\x00behind", 3), down("\x00", 4))
		p := some(r, deg)
		terms := append(slices.Clone(p.Terms), term(api.Num{}, 128), term(dy(1, 0), 7, 7, 7))
		keptC, keptRoom, keptB, keptX, keptTerms := slices.Clone(c), slices.Clone(room), slices.Clone(b), slices.Clone(x), slices.Clone(terms)

		f, p = form(room[:n], c[:len(f.C)]...), of(n, terms[:len(p.Terms)]...)
		checks(t, "a form with room", f, api.OK)
		is(t, "Of", formOf(p, b[:n], deg))(Of(p, b[:n], room[:n]...))
		is(t, "Of", formOf(p, b[:n], poly.Degs(p)))(Of(p, b[:n]))
		is(t, "Back", backOf(f, b[:n]))(Back(f, b[:n]))
		is(t, "Eval", stands(f, x[:n]))(Eval(f, x[:n]...))
		is(t, "Corner", f.C[0])(Corner(f, 0))
		for axis := range n {
			is(t, "Face", faceOf(f, axis, 1))(Face(f, axis, 1))
			is(t, "Derive", slopeOf(f, axis))(Derive(f, axis))
		}
		weighs(t, weightsOf(deg), room[:n]...)
		fails[api.Form](t, "Of", api.ErrFlat)(Of(p, b, room...))
		fails[api.Num](t, "Eval", api.ErrArg)(Eval(f, x...))
		if !slices.Equal(c, keptC) || !slices.Equal(room, keptRoom) || !slices.Equal(b, keptB) || !slices.Equal(x, keptX) || !slices.Equal(terms, keptTerms) {
			t.Errorf("changed: %v", deg)
		}
	}
}

// spoil writes over a form's lists, and behind their ends.
func spoil(f api.Form) {
	for i := range f.Deg {
		f.Deg[i] = -7
	}
	for i := range f.C {
		f.C[i] = up("spoilt", i)
	}
	_, _ = append(f.Deg, -7), append(f.C, up("spoilt", 9))
}

// P12.6: the lists that are answered belong to the caller.
func TestNewLists(t *testing.T) {
	for _, deg := range shapes()[1:] {
		n := len(deg)
		f, p, b := forms(deg)[3], polys(deg)[3], boxes(n)[0]
		kept, keptDeg, terms := slices.Clone(f.C), slices.Clone(deg), slices.Clone(p.Terms)
		for _, answer := range []func() (api.Form, api.Errno){
			func() (api.Form, api.Errno) { return Of(p, b, deg...) },
			func() (api.Form, api.Errno) { return Of(p, b) },
			func() (api.Form, api.Errno) { return Face(f, 0, 0) },
			func() (api.Form, api.Errno) { return Face(f, n-1, 1) },
			func() (api.Form, api.Errno) { return Derive(f, 0) },
			func() (api.Form, api.Errno) { return Derive(f, n-1) },
			func() (api.Form, api.Errno) { return form(slices.Clone(deg), Weights(deg...)...), api.OK },
		} {
			first, _ := answer()
			want := form(slices.Clone(first.Deg), slices.Clone(first.C)...)
			spoil(first)
			is(t, "once more", want)(answer())
		}
		q, _ := Back(f, b)
		want := of(q.Vars, slices.Clone(q.Terms)...)
		for i := range q.Terms {
			q.Terms[i] = term(up("spoilt", i), 99)
		}
		is(t, "once more", want)(Back(f, b))
		if !slices.Equal(f.C, kept) || !slices.Equal(deg, keptDeg) || !slices.Equal(p.Terms, terms) {
			t.Errorf("%v: what was handed in is spoilt", deg)
		}
	}
}

// P12.6: a number that is answered as it was handed in has memory of its own.
func TestNewNumbers(t *testing.T) {
	mag := string([]byte("an odd number's bytes, as 's' is odd")) + "s"
	a, one := up(mag, -5), dy(1, 0)
	var l []api.Num
	keep := func(f api.Form, e api.Errno) { l = append(l, f.C...) }
	keepNum := func(a api.Num, e api.Errno) { l = append(l, a) }
	keepPoly := func(p api.Poly, e api.Errno) {
		for _, term := range p.Terms {
			l = append(l, term.C)
		}
	}
	two := form([]int{1}, a, a)
	keep(Of(of(1, term(a, 0)), to(0, 1)))
	keep(Of(of(1, term(a, 0)), to(2, 5), 1))
	keep(Of(of(2, term(a, 0, 0)), to(0, 1, 0, 1), 1, 0))
	keep(Face(two, 0, 0))
	keep(Face(two, 0, 1))
	keep(Derive(form([]int{1}, api.Num{}, a), 0))
	keepPoly(Back(form([]int{0}, a), to(2, 5)))
	keepPoly(Back(two, to(0, 1)))
	keepNum(Eval(form(nil, a)))
	keepNum(Eval(form([]int{0}, a), one))
	keepNum(Eval(two, one))
	keepNum(Eval(two, api.Num{}))
	keepNum(Corner(two, 0))
	keepNum(Corner(form(nil, a), 0))
	if len(l) != 16 {
		t.Errorf("%d numbers", len(l))
	}
	for i, got := range l {
		if got != a || unsafe.StringData(got.M.Mag) == unsafe.StringData(mag) {
			t.Errorf("%d: %v", i, got)
		}
	}
}

// P12.7: a polynomial's form has, at any t's, its values at their place.
func TestSameValues(t *testing.T) {
	eachPoly(func(p api.Poly, b api.Box) {
		deg := poly.Degs(p)
		deg[0]++
		f, e := Of(p, b, deg...)
		if e != api.OK {
			t.Fatal(e)
		}
		for _, x := range points(len(b))[:7] {
			want, _ := calc.Eval(p, box.Place(b, x)...)
			is(t, "Eval of "+tell(f, x), want)(Eval(f, x...))
		}
	})
}

// P12.8: Back of a polynomial's form is the polynomial, times the product of the widths to the degrees.
func TestThereAndBack(t *testing.T) {
	eachPoly(func(p api.Poly, b api.Box) {
		for more := range 2 {
			deg, factor := poly.Degs(p), big.NewRat(1, 1)
			deg[len(deg)-1] += more
			for axis, s := range b {
				factor.Mul(factor, power(new(big.Rat).Sub(rat(s.Hi), rat(s.Lo)), deg[axis]))
			}
			want, _ := poly.Scale(p, num(factor))
			f, e := Of(p, b, deg...)
			if e != api.OK {
				t.Fatal(e)
			}
			is(t, "Back of "+tell(f, b), want)(Back(f, b))
		}
	})
}

// P12.9: a corner's number is the value there; a face stands for the values on that side.
func TestCornersAndFaces(t *testing.T) {
	eachPoly(func(p api.Poly, b api.Box) {
		f, e := Of(p, b)
		if e != api.OK {
			t.Fatal(e)
		}
		for bits := range min(1<<len(b), 32) {
			want, _ := calc.Eval(p, box.Corner(b, bits)...)
			is(t, "a corner", want)(Corner(f, bits))
		}
		if len(b) == 1 {
			return
		}
		for axis, s := range b[:min(len(b), 4)] {
			for side, end := range []api.Num{s.Lo, s.Hi} {
				face, _ := calc.Face(p, axis, end)
				deg := slices.Delete(poly.Degs(p), axis, axis+1)
				want, e := Of(face, slices.Delete(slices.Clone(b), axis, axis+1), deg...)
				if e != api.OK {
					t.Fatal(e)
				}
				is(t, "a face", want)(Face(f, axis, side))
			}
		}
	})
}

// P12.10: the form of a sum, with the same degrees, has the sums of the numbers; that of a number c has c times the weights.
func TestSums(t *testing.T) {
	r := rand.New(rand.NewSource(10))
	for _, deg := range shapes()[1:] {
		for _, b := range boxes(len(deg)) {
			p, q := some(r, deg), some(r, deg)
			both, _ := poly.Add(p, q)
			f, _ := Of(p, b, deg...)
			g, _ := Of(q, b, deg...)
			sum := form(deg)
			for i := range f.C {
				sum.C = append(sum.C, num(new(big.Rat).Add(rat(f.C[i]), rat(g.C[i]))))
			}
			is(t, "a sum", sum)(Of(both, b, deg...))
			for _, c := range []api.Num{{}, dy(1, 0), dy(-5, -3), vary(r)} {
				number, _ := poly.Const(len(deg), c)
				weights := form(deg)
				for _, w := range Weights(deg...) {
					weights.C = append(weights.C, num(times(rat(c), rat(w))))
				}
				is(t, "a number", weights)(Of(number, b, deg...))
			}
		}
	}
}

// A form's slope, on a box, is the polynomial's, times the width.
func TestSlopes(t *testing.T) {
	eachPoly(func(p api.Poly, b api.Box) {
		f, _ := Of(p, b)
		for axis, s := range b[:min(len(b), 4)] {
			if f.Deg[axis] == 0 {
				continue
			}
			slope, _ := calc.Derive(p, axis)
			slope, _ = poly.Scale(slope, num(new(big.Rat).Sub(rat(s.Hi), rat(s.Lo))))
			deg := slices.Clone(f.Deg)
			deg[axis]--
			want, e := Of(slope, b, deg...)
			if e != api.OK {
				t.Fatal(e)
			}
			is(t, "a slope", want)(Derive(f, axis))
		}
	})
}

// R7: numbers of 4096 bytes, and Es from -32768 to 32768.
func TestGreat(t *testing.T) {
	r := rand.New(rand.NewSource(11))
	long := func() api.Num {
		b := make([]byte, 4096)
		r.Read(b)
		return num(rat(api.Num{M: api.Int{Neg: r.Intn(2) == 0, Mag: string(b)}, E: r.Intn(9) - 9}))
	}
	span := func(a, b api.Num) api.Span {
		if rat(a).Cmp(rat(b)) > 0 {
			a, b = b, a
		}
		return api.Span{Lo: a, Hi: b}
	}
	for _, b := range []api.Box{
		{span(long(), long()), span(long(), long())},
		{span(dy(-1, 32768), dy(1, 32768)), span(dy(1, -32768), dy(3, -32768))},
		{span(dy(-1, -32768), dy(5, 32768)), span(api.Num{}, long())},
	} {
		p := of(2, term(long(), 0, 0), term(dy(1, -32768), 0, 1), term(dy(1, 32768), 1, 0), term(long(), 1, 1))
		is(t, "Of", formOf(p, b, []int{1, 1}))(Of(p, b))
		is(t, "Of", formOf(p, b, []int{2, 1}))(Of(p, b, 2, 1))
		f := form([]int{1, 2}, long(), dy(1, -32768), dy(-3, 32768), long(), api.Num{}, long())
		is(t, "Back", backOf(f, b))(Back(f, b))
		for _, x := range [][]api.Num{{long(), long()}, {dy(1, -32768), dy(1, 32768)}, {dy(1, 32768), dy(-1, -32768)}} {
			is(t, "Eval", stands(f, x))(Eval(f, x...))
		}
		is(t, "Corner", f.C[5])(Corner(f, 3))
		for axis := range 2 {
			is(t, "Derive", slopeOf(f, axis))(Derive(f, axis))
			is(t, "Face", faceOf(f, axis, 1))(Face(f, axis, 1))
		}
	}
}

// R1: beyond what is promised, a call comes to its end; what needs no reckoning is right there, too.
func TestFarEs(t *testing.T) {
	far := []int{math.MinInt, math.MinInt + 1, -1 << 62, -1 << 40, 0, 1 << 40, 1 << 62, math.MaxInt - 1, math.MaxInt}
	for _, e := range far {
		for _, g := range far {
			low, high := down("\x03", e), up("\x05", g)
			f := form([]int{1, 2}, low, high, low, high, up("\x01", e), down("\x07", g))
			checks(t, "far", f, api.OK)
			is(t, "a corner", low)(Corner(f, 2))
			is(t, "a face", form([]int{2}, low, high, low))(Face(f, 0, 0))
			b := api.Box{{Lo: low, Hi: high}, {Lo: low, Hi: up("\x00\x08", e)}}
			p := of(2, term(low, 0, 0), term(high, 0, 1), term(dy(1, 0), 2, 3))
			Of(p, b)
			Of(p, b, 3, 3)
			Of(p, to(0, 1, 2, 4), 2, 5)
			Back(f, b)
			Back(f, to(0, 1, 2, 4))
			Eval(f, low, high)
			Eval(f, up("\x00", g), up("\x00\x10", e))
			Derive(f, 0)
			Derive(f, 1)
		}
	}
}
