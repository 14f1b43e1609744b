package cast

import (
	"fmt"
	"math"
	"math/big"
	"math/rand"
	"slices"
	"strings"
	"testing"
	"unsafe"

	"ogee/api"
	"ogee/bern"
	"ogee/box"
	"ogee/mono"
	"ogee/poly"
)

// up and down: the number of that size above 0, below it, times 2^e. They needn't be in the one form.
func up(mag string, e int) api.Num   { return api.Num{M: api.Int{Mag: mag}, E: e} }
func down(mag string, e int) api.Num { return api.Num{M: api.Int{Neg: true, Mag: mag}, E: e} }

// dy: m times 2^e, in the one form; ints: whole numbers.
func dy(m int64, e int) api.Num {
	n := new(big.Int).Abs(big.NewInt(m))
	return num(rat(api.Num{M: api.Int{Neg: m < 0, Mag: string(n.Bytes())}, E: e}))
}

func ints(l ...int64) []api.Num {
	var row []api.Num
	for _, n := range l {
		row = append(row, dy(n, 0))
	}
	return row
}

// rat and num: the library's fractions are what answers are held against. num tells the one form.
func rat(a api.Num) *big.Rat {
	n := new(big.Int).SetBytes([]byte(a.M.Mag))
	if a.M.Neg {
		n.Neg(n)
	}
	if a.E >= 0 {
		return new(big.Rat).SetInt(n.Lsh(n, uint(a.E)))
	}
	return new(big.Rat).SetFrac(n, new(big.Int).Lsh(big.NewInt(1), uint(-a.E)))
}

func num(r *big.Rat) api.Num {
	if r.Sign() == 0 {
		return api.Num{}
	}
	zeros := r.Num().TrailingZeroBits()
	mag := new(big.Int).Rsh(new(big.Int).Abs(r.Num()), zeros)
	return api.Num{M: api.Int{Neg: r.Sign() < 0, Mag: string(mag.Bytes())}, E: int(zeros) - r.Denom().BitLen() + 1}
}

func plus(a, b *big.Rat) *big.Rat { return new(big.Rat).Add(a, b) }
func less(a, b *big.Rat) *big.Rat { return new(big.Rat).Sub(a, b) }

func mul(l ...*big.Rat) *big.Rat {
	product := big.NewRat(1, 1)
	for _, a := range l {
		product.Mul(product, a)
	}
	return product
}

// ways is in how many ways i of d things are taken.
func ways(d, i int) *big.Rat {
	return new(big.Rat).SetInt(new(big.Int).Binomial(int64(d), int64(i)))
}

// form: one with these degrees and numbers; degs: the same degree for so many axes; mid: 1/2, the middle.
func form(deg []int, c ...api.Num) api.Form { return api.Form{Deg: deg, C: c} }

func degs(n, d int) []int { return slices.Repeat([]int{d}, n) }

var mid = dy(1, -1)

// size is how many numbers a form with these degrees has.
func size(deg []int) int {
	n := 1
	for _, d := range deg {
		n *= d + 1
	}
	return n
}

// castLine parts a line as de Casteljau does: of coefficients (the numbers, divided by in how many ways i of d things are taken) each two next to each other make one, step by step; the first ones of all steps are the lower part's, the last ones the upper part's. All are told as whole numbers, above one divisor, as the library's fractions take long.
func castLine(line []api.Num, s *big.Rat) (lower, upper []api.Num) {
	d := len(line) - 1
	lower, upper = make([]api.Num, d+1), make([]api.Num, d+1)
	divisor, row := big.NewInt(1), make([]*big.Int, d+1)
	for i, c := range line {
		below := new(big.Rat).Quo(rat(c), ways(d, i)).Denom()
		common := new(big.Int).GCD(nil, nil, divisor, below)
		divisor.Mul(divisor, below.Div(below, common))
	}
	for i, c := range line {
		row[i] = mul(rat(c), new(big.Rat).SetFrac(divisor, ways(d, i).Num())).Num()
	}
	rest := new(big.Int).Sub(s.Denom(), s.Num())
	for step := range d + 1 {
		last := d - step
		lower[step] = num(mul(new(big.Rat).SetFrac(row[0], divisor), ways(d, step)))
		upper[last] = num(mul(new(big.Rat).SetFrac(row[last], divisor), ways(d, last)))
		for i := range last {
			ahead, behind := new(big.Int).Mul(rest, row[i]), new(big.Int).Mul(s.Num(), row[i+1])
			row[i] = ahead.Add(ahead, behind)
		}
		divisor.Mul(divisor, s.Denom())
	}
	return lower, upper
}

// cutOf is what Cut should answer.
func cutOf(f api.Form, axis int, s *big.Rat) (lower, upper api.Form) {
	lower, upper = form(f.Deg, slices.Clone(f.C)...), form(f.Deg, slices.Clone(f.C)...)
	d, step := f.Deg[axis], size(f.Deg[axis+1:])
	for first := range f.C {
		if first/step%(d+1) > 0 {
			continue
		}
		var line []api.Num
		for i := range d + 1 {
			line = append(line, f.C[first+i*step])
		}
		low, high := castLine(line, s)
		for i := range d + 1 {
			lower.C[first+i*step], upper.C[first+i*step] = low[i], high[i]
		}
	}
	return lower, upper
}

// partOf is what Part should answer, if each halving may be.
func partOf(f api.Form, halvings ...int) api.Form {
	for _, n := range halvings {
		low, high := cutOf(f, n/2, rat(mid))
		f = []api.Form{low, high}[n%2]
	}
	return f
}

// stands is what a form stands for at these t's, by the words of chapter 12: number by number.
func stands(f api.Form, t []*big.Rat) *big.Rat {
	sum := new(big.Rat)
	for k, c := range f.C {
		product := rat(c)
		for axis := len(f.Deg) - 1; axis >= 0; axis-- {
			d := f.Deg[axis]
			for i := range d {
				if i < k%(d+1) {
					product.Mul(product, t[axis])
				} else {
					product.Mul(product, less(big.NewRat(1, 1), t[axis]))
				}
			}
			k /= d + 1
		}
		sum.Add(sum, product)
	}
	return sum
}

// shapes are degrees of forms, of one axis up to twelve, that do not have many numbers.
func shapes() [][]int {
	return [][]int{
		{0}, {1}, {2}, {3}, {7}, {0, 0}, {1, 2}, {2, 1}, {3, 0}, {0, 4}, {2, 2}, {1, 0, 2}, {2, 1, 1}, {0, 3, 0}, {1, 2, 3}, {1, 1, 1, 1}, {0, 1, 0, 2, 0},
		degs(12, 0), {0, 0, 1, 0, 0, 0, 2, 0, 0, 0, 0, 1},
	}
}

// crowded are degrees of which a form has as many numbers as there may be, or nearly.
func crowded() [][]int {
	return [][]int{{127}, {63, 63}, {127, 31}, {31, 127}, {15, 15, 15}, {7, 7, 7, 7}, {3, 3, 3, 3, 3, 3}, degs(12, 1), {0, 63, 0, 63, 0}}
}

// vary is a number of what chance says: small or long ones, in the one form.
func vary(r *rand.Rand) api.Num {
	switch r.Intn(8) {
	case 0:
		return api.Num{}
	case 1:
		b := make([]byte, 1+r.Intn(20))
		r.Read(b)
		return num(rat(api.Num{M: api.Int{Neg: r.Intn(2) == 0, Mag: string(b)}, E: r.Intn(99) - 60}))
	}
	return dy(int64(r.Intn(41)-20), r.Intn(7)-3)
}

func varied(r *rand.Rand, deg []int) api.Form {
	c := make([]api.Num, size(deg))
	for i := range c {
		c[i] = vary(r)
	}
	return form(deg, c...)
}

// forms are such with these degrees: noughts, one number alone, counted ones, those of 1, and what chance (the same each time) makes.
func forms(deg []int) []api.Form {
	n := size(deg)
	alone, counted := make([]api.Num, n), make([]api.Num, n)
	alone[n/2] = dy(-3, -1)
	for i := range counted {
		counted[i] = dy(int64(i+1), 0)
	}
	r := rand.New(rand.NewSource(int64(n)))
	return []api.Form{
		form(deg, make([]api.Num, n)...), form(deg, alone...), form(deg, counted...), form(deg, bern.Weights(deg...)...), varied(r, deg), varied(r, deg),
	}
}

func eachForm(do func(f api.Form)) {
	for _, deg := range shapes() {
		for _, f := range forms(deg) {
			do(f)
		}
	}
}

// eachPoly goes through polynomials with a box, and degrees that are enough for both.
func eachPoly(do func(p api.Poly, b api.Box, deg []int)) {
	r := rand.New(rand.NewSource(5))
	for _, deg := range shapes() {
		for more := range 3 {
			p := api.Poly{Vars: len(deg)}
			for _, m := range mono.All(deg...) {
				if c := vary(r); c != (api.Num{}) && r.Intn(3) > 0 {
					p.Terms = append(p.Terms, api.Term{Mono: m, C: c})
				}
			}
			b := make(api.Box, len(deg))
			for i := range b {
				lo := vary(r)
				b[i] = api.Span{Lo: lo, Hi: num(plus(rat(lo), rat(dy(int64(r.Intn(9)+1), r.Intn(9)-6))))}
			}
			enough := poly.Degs(p)
			enough[more%len(deg)] += more
			do(p, b, enough)
		}
	}
}

// cuts are where lines are cut: at both ends, between and beside them, by numbers that aren't in the one form, and far away.
func cuts() []api.Num {
	return []api.Num{
		{}, dy(1, 0), mid, dy(1, -2), dy(3, -2), dy(5, -3), dy(-1, 0), dy(2, 0), dy(-7, -1), dy(3, 5), dy(1, -70), dy(1<<40-1, -40), dy(-3, 60),
		up("\x00\x06", -3), up("\x04", -2), up("\x04", -3), down("\x00\x02", 1), up("", 5), up("\x00", -9), down("", 0), down("\x00", 3), up("\x00\x01\x00", -8), up("a longer one", -93),
	}
}

// The checks hold an answer against what it should be.
func alike(a, b api.Form) bool { return slices.Equal(a.Deg, b.Deg) && slices.Equal(a.C, b.C) }

func bare(f api.Form) bool { return f.Deg == nil && f.C == nil }

// tell makes a text that is not too long.
func tell(l ...any) string {
	var s strings.Builder
	for _, a := range l {
		if f, ok := a.(api.Form); ok {
			fmt.Fprintf(&s, "a form of the degrees %v, %d numbers: ", f.Deg[:min(len(f.Deg), 13)], len(f.C))
			a = f.C[:min(len(f.C), 9)]
		}
		fmt.Fprintf(&s, "%v; ", a)
	}
	return fmt.Sprintf("%+q", s.String()[:min(s.Len(), 900)]) // as numbers have bytes of all kinds
}

func is(t *testing.T, what string, want api.Form) func(got api.Form, e api.Errno) {
	t.Helper()
	return func(got api.Form, e api.Errno) {
		t.Helper()
		if e != api.OK || !alike(got, want) {
			t.Errorf("%s: %s, %d; not %s", what, tell(got), e, tell(want))
		}
	}
}

func are(t *testing.T, what string, low, high api.Form) func(lower, upper api.Form, e api.Errno) {
	t.Helper()
	return func(lower, upper api.Form, e api.Errno) {
		t.Helper()
		is(t, what+", the lower part", low)(lower, e)
		is(t, what+", the upper part", high)(upper, e)
	}
}

// fails and failBoth say that there is that error, and nothing else.
func fails(t *testing.T, what string, want api.Errno) func(got api.Form, e api.Errno) {
	t.Helper()
	return func(got api.Form, e api.Errno) {
		t.Helper()
		if e != want || !bare(got) {
			t.Errorf("%s: %s, %d; not error %d", what, tell(got), e, want)
		}
	}
}

func failBoth(t *testing.T, what string, want api.Errno) func(lower, upper api.Form, e api.Errno) {
	t.Helper()
	return func(lower, upper api.Form, e api.Errno) {
		t.Helper()
		fails(t, what, want)(lower, e)
		fails(t, what, want)(upper, e)
	}
}

// parts cuts a form that can be cut.
func parts(t *testing.T, f api.Form, axis int, s api.Num) (lower, upper api.Form) {
	t.Helper()
	lower, upper, e := Cut(f, axis, s)
	if e != api.OK || bern.Check(lower) != api.OK || bern.Check(upper) != api.OK {
		t.Errorf("%s cut along %d at %v: %d", tell(f), axis, s, e)
	}
	return lower, upper
}

// The chapter's examples, row by row.
func TestExamples(t *testing.T) {
	line, square := form([]int{1}, ints(0, 1)...), form([]int{2}, ints(0, 0, 4)...)
	are(t, "Halve(0 1)", form([]int{1}, dy(0, 0), mid), form([]int{1}, mid, dy(1, 0)))(Halve(line, 0))
	are(t, "Halve(0 0 4)", form([]int{2}, ints(0, 0, 1)...), form([]int{2}, ints(1, 4, 4)...))(Halve(square, 0))
	are(t, "Cut(0 1; 0; 1/4)", form([]int{1}, dy(0, 0), dy(1, -2)), form([]int{1}, dy(1, -2), dy(1, 0)))(Cut(line, 0, dy(1, -2)))
	is(t, "Part(0 0 4; 1, 0)", form([]int{2}, dy(1, 0), dy(3, 0), dy(9, -2)))(Part(square, 1, 0))
	failBoth(t, "Halve(7 of no axes, 0)", api.ErrArg)(Halve(form(nil, ints(7)...), 0))
}

// P13.1, R4: both parts, along each axis, at any s.
func TestCut(t *testing.T) {
	eachForm(func(f api.Form) {
		for axis := range f.Deg {
			for _, s := range cuts() {
				low, high := cutOf(f, axis, rat(s))
				are(t, "Cut "+tell(f, axis, s), low, high)(Cut(f, axis, s))
			}
		}
	})
	f := form([]int{1, 2}, ints(1, 2, 3, 4, 5, 6)...)
	are(t, "at the lower end", form([]int{1, 2}, ints(1, 2, 1, 4, 8, 4)...), f)(Cut(f, 1, dy(0, 0)))
	are(t, "at the upper end", f, form([]int{1, 2}, ints(4, 5, 6, 4, 5, 6)...))(Cut(f, 0, dy(1, 0)))
	are(t, "ahead of it", form([]int{1}, ints(1, -1)...), form([]int{1}, ints(-1, 3)...))(Cut(form([]int{1}, ints(1, 3)...), 0, dy(-1, 0)))
	are(t, "behind it", form([]int{1}, ints(1, 7)...), form([]int{1}, ints(7, 3)...))(Cut(form([]int{1}, ints(1, 3)...), 0, dy(3, 0)))
	are(t, "at a 0 with an E", form([]int{1, 2}, ints(1, 2, 3, 1, 2, 3)...), f)(Cut(f, 0, up("", 1)))
}

// P13.1: the parts stand for what the form does at s t, and at s + (1 - s) t, at the same t's of the other axes.
func TestStandsFor(t *testing.T) {
	r := rand.New(rand.NewSource(6))
	eachForm(func(f api.Form) {
		x := make([]*big.Rat, len(f.Deg))
		for axis := range x {
			x[axis] = big.NewRat(int64(r.Intn(31)-10), 7)
		}
		for axis := range f.Deg {
			for _, s := range cuts()[:10] {
				lower, upper := parts(t, f, axis, s)
				ahead, behind := slices.Clone(x), slices.Clone(x)
				ahead[axis] = mul(rat(s), x[axis])
				behind[axis] = plus(rat(s), mul(less(big.NewRat(1, 1), rat(s)), x[axis]))
				if stands(lower, x).Cmp(stands(f, ahead)) != 0 || stands(upper, x).Cmp(stands(f, behind)) != 0 {
					t.Errorf("%s cut along %d at %v: other values at %v", tell(f), axis, s, x)
				}
			}
		}
	})
}

// P13.1: the halves.
func TestHalve(t *testing.T) {
	eachForm(func(f api.Form) {
		for axis := range f.Deg {
			low, high := cutOf(f, axis, rat(mid))
			are(t, "Halve "+tell(f, axis), low, high)(Halve(f, axis))
			are(t, "Cut at 1/2 "+tell(f, axis), low, high)(Cut(f, axis, mid))
		}
	})
	f := form([]int{1, 2}, ints(0, 0, 4, 8, 0, 0)...)
	are(t, "along the first axis", form([]int{1, 2}, ints(0, 0, 4, 4, 0, 2)...), form([]int{1, 2}, ints(4, 0, 2, 8, 0, 0)...))(Halve(f, 0))
	are(t, "along the last axis", form([]int{1, 2}, ints(0, 0, 1, 8, 8, 2)...), form([]int{1, 2}, ints(1, 4, 4, 2, 0, 0)...))(Halve(f, 1))
}

// P13.1, P13.2: as many numbers as there may be.
func TestMany(t *testing.T) {
	r := rand.New(rand.NewSource(7))
	for _, deg := range crowded() {
		f := form(deg, bern.Weights(deg...)...)
		for i, c := range f.C { // coefficients without long divisors, as the fractions take long else
			f.C[i] = num(mul(rat(c), rat(dy(int64(r.Intn(41)-20), r.Intn(7)-3))))
		}
		for _, axis := range slices.Compact([]int{0, len(deg) / 2, len(deg) - 1}) {
			low, high := cutOf(f, axis, rat(mid))
			are(t, "Halve of "+tell(deg), low, high)(Halve(f, axis))
			is(t, "the lower half of "+tell(deg), low)(Part(f, 2*axis))
			is(t, "the upper half of "+tell(deg), high)(Part(f, 2*axis+1))
			low, high = cutOf(f, axis, rat(dy(-5, -2)))
			are(t, "Cut of "+tell(deg), low, high)(Cut(f, axis, dy(-5, -2)))
		}
	}
}

// P13.2
func TestPart(t *testing.T) {
	r := rand.New(rand.NewSource(8))
	eachForm(func(f api.Form) {
		is(t, "no halving of "+tell(f), f)(Part(f))
		is(t, "no halving of "+tell(f), f)(Part(f, []int{}...))
		for axis := range f.Deg {
			low, high, _ := Halve(f, axis)
			is(t, "the lower half of "+tell(f), low)(Part(f, 2*axis))
			is(t, "the upper half of "+tell(f), high)(Part(f, 2*axis+1))
		}
		for n := range 7 {
			halvings := make([]int, n)
			for i := range halvings {
				halvings[i] = r.Intn(2 * len(f.Deg))
			}
			is(t, "Part "+tell(f, halvings), partOf(f, halvings...))(Part(f, halvings...))
		}
	})
	square := form([]int{2}, ints(0, 0, 4)...)
	is(t, "a half's half", form([]int{2}, dy(9, -2), dy(6, 0), dy(4, 0)))(Part(square, 1, 1))
	is(t, "a half's half", form([]int{2}, dy(1, -2), dy(1, 0), dy(1, 0)))(Part(square, 0, 1))
	is(t, "of no axes", form(nil, ints(7)...))(Part(form(nil, ints(7)...)))
	is(t, "of no axes", form(nil, ints(0)...))(Part(form([]int{}, ints(0)...)))
}

// P13.2: as many halvings as numbers have Es for.
func TestManyHalvings(t *testing.T) {
	line := form([]int{1}, ints(0, 1)...)
	is(t, "to the lower end", form([]int{1}, dy(0, 0), dy(1, -32768)))(Part(line, make([]int, 32768)...))
	below := up(strings.Repeat("\xff", 4096), -32768) // 1, less 2^-32768
	is(t, "to the upper end", form([]int{1}, below, dy(1, 0)))(Part(line, slices.Repeat([]int{1}, 32768)...))
	square := form([]int{2, 0}, ints(0, 0, 4)...)
	is(t, "a square's", form([]int{2, 0}, dy(0, 0), dy(0, 0), dy(1, 2-2*16384)))(Part(square, slices.Repeat([]int{0, 2, 3}, 16384)...))
	third := new(big.Rat)
	for range 500 { // from 1/3 on, nearly: up and down
		third.Quo(plus(third, big.NewRat(1, 1)), big.NewRat(4, 1))
	}
	is(t, "up and down", form([]int{1}, num(third), num(plus(third, rat(dy(1, -1000))))))(Part(line, slices.Repeat([]int{0, 1}, 500)...))
}

// badForm is a form that may not be, and Check's error of it.
type badForm struct {
	f api.Form
	e api.Errno
}

func wrongForms() []badForm {
	seven := ints(7)
	l := []badForm{
		{api.Form{}, api.ErrArg}, {form(nil, ints(7, 7)...), api.ErrArg},
		{form(degs(13, 0), seven...), api.ErrArg}, {form(degs(13, 127), seven...), api.ErrArg}, {form(degs(99999, 0), seven...), api.ErrArg},
		{form([]int{63, 64}, seven...), api.ErrLimit}, {form([]int{127, 127}), api.ErrLimit}, {form(degs(12, 127), make([]api.Num, 5000)...), api.ErrLimit},
		{form([]int{1, 15, 15, 15}, slices.Repeat([]api.Num{up("\x02", 0)}, 8192)...), api.ErrLimit}, {form([]int{1}, make([]api.Num, 5000)...), api.ErrArg},
	}
	for _, d := range []int{-1, -2, 128, 129, 1 << 32, math.MinInt, math.MaxInt} {
		l = append(l, badForm{form([]int{d}, seven...), api.ErrArg}, badForm{form([]int{0, d}, seven...), api.ErrArg}, badForm{form([]int{d, 127, 127}, seven...), api.ErrArg})
	}
	for _, deg := range shapes() {
		f := forms(deg)[2]
		l = append(l, badForm{form(deg), api.ErrArg}, badForm{form(deg, f.C[1:]...), api.ErrArg}, badForm{form(deg, append(slices.Clone(f.C), dy(1, 0))...), api.ErrArg})
		for _, a := range []api.Num{up("\x02", 0), up("\x00\x01", 0), up("\x03\x00", -8), up("", 1), down("", 0), up("\x00", 0)} {
			for _, i := range []int{0, len(f.C) / 2, len(f.C) - 1} {
				c := slices.Clone(f.C)
				c[i] = a
				l = append(l, badForm{form(deg, c...), api.ErrArg})
			}
		}
	}
	return l
}

// far are numbers that no axis has, and no halving is of one.
var far = []int{-1, -2, -3, math.MinInt, math.MinInt + 1, -1 << 32, 1 << 32, 1<<32 + 1, 1 << 62, math.MaxInt - 1, math.MaxInt}

// Errors: Check's goes ahead of all, whatever else is wrong.
func TestWrongForms(t *testing.T) {
	for _, c := range wrongForms() {
		what := tell(c.f)
		if e := bern.Check(c.f); e != c.e {
			t.Errorf("%s: Check: %d", what, e)
		}
		for _, n := range append([]int{0, 1, 2, 12, 13}, far...) {
			failBoth(t, what, c.e)(Cut(c.f, n, dy(1, -2)))
			failBoth(t, what, c.e)(Cut(c.f, n, up("\x00", 3)))
			failBoth(t, what, c.e)(Halve(c.f, n))
			fails(t, what, c.e)(Part(c.f, n))
			fails(t, what, c.e)(Part(c.f, 0, n))
		}
		fails(t, what, c.e)(Part(c.f))
	}
}

// Errors: no such axis; a halving below 0, or of no axis, among others that may be.
func TestWrongAxes(t *testing.T) {
	none := form(nil, ints(7)...)
	all := []api.Form{none, form([]int{}, ints(7)...)}
	eachForm(func(f api.Form) { all = append(all, f) })
	for _, f := range all {
		n, what := len(f.Deg), tell(f)
		for _, axis := range append([]int{n, n + 1, 2*n + 1, 12, 13}, far...) {
			failBoth(t, what, api.ErrArg)(Cut(f, axis, mid))
			failBoth(t, what, api.ErrArg)(Cut(f, axis, up("\x00\x02", -1)))
			failBoth(t, what, api.ErrArg)(Halve(f, axis))
		}
		for _, wrong := range append([]int{2 * n, 2*n + 1, 2*n + 2, 24, 25, 26}, far...) {
			fails(t, what, api.ErrArg)(Part(f, wrong))
			for i := range 4 {
				if n > 0 {
					halvings := slices.Insert([]int{0, 2*n - 1, 1}, i, wrong)
					fails(t, what, api.ErrArg)(Part(f, halvings...))
				}
			}
		}
	}
	fails(t, "the last of many", api.ErrArg)(Part(form([]int{2}, ints(1, 2, 3)...), append(make([]int, 5000), 2)...))
	fails(t, "-1 is no half of axis 0", api.ErrArg)(Part(form([]int{2}, ints(1, 2, 3)...), -1))
}

// P13.3, R3: what is handed in stays, also in the room behind its end.
func TestStays(t *testing.T) {
	for _, deg := range shapes() {
		for _, f := range forms(deg) {
			n := len(deg)
			c := append(slices.Clone(f.C), up("\x00behind", 1), down("\x00", 2))
			room := append(slices.Clone(deg), 127, -1)
			halvings := []int{2*n - 1, 0, 1, 2*n - 2, -1, 7}
			keptC, keptRoom, keptHalvings := slices.Clone(c), slices.Clone(room), slices.Clone(halvings)
			f = form(room[:n], c[:len(f.C)]...)
			for axis := range n {
				low, high := cutOf(f, axis, rat(dy(3, -2)))
				are(t, "Cut", low, high)(Cut(f, axis, dy(3, -2)))
				low, high = cutOf(f, axis, rat(mid))
				are(t, "Halve", low, high)(Halve(f, axis))
			}
			is(t, "Part", partOf(f, halvings[:4]...))(Part(f, halvings[:4]...))
			is(t, "Part", f)(Part(f, halvings[:0]...))
			fails(t, "Part", api.ErrArg)(Part(f, halvings...))
			failBoth(t, "Halve", api.ErrArg)(Halve(f, n))
			if !slices.Equal(c, keptC) || !slices.Equal(room, keptRoom) || !slices.Equal(halvings, keptHalvings) {
				t.Errorf("changed: %s", tell(f))
			}
		}
	}
}

// spoil writes over a form's lists, and behind their ends.
func spoil(f api.Form) {
	for i := range f.Deg {
		f.Deg[i] = -7
	}
	for i := range f.C {
		f.C[i] = up("spoilt", i)
	}
	_, _ = append(f.Deg, -7), append(f.C, up("spoilt", 9))
}

// P13.3: the lists that are answered belong to the caller, and both parts have none in common.
func TestNewLists(t *testing.T) {
	eachForm(func(f api.Form) {
		kept := form(slices.Clone(f.Deg), slices.Clone(f.C)...)
		for axis := range f.Deg {
			for _, s := range []api.Num{mid, dy(1, -2), {}, dy(1, 0)} {
				low, high := cutOf(kept, axis, rat(s))
				low.Deg, high.Deg = slices.Clone(low.Deg), slices.Clone(high.Deg)
				lower, upper := parts(t, f, axis, s)
				spoil(lower)
				is(t, "the upper part, when the lower one is spoilt", high)(upper, api.OK)
				lower, upper = parts(t, f, axis, s)
				spoil(upper)
				is(t, "the lower part, when the upper one is spoilt", low)(lower, api.OK)
				is(t, "what was handed in", kept)(f, api.OK)
			}
			part, _ := Part(f, 2*axis)
			spoil(part)
			whole, _ := Part(f)
			spoil(whole)
			is(t, "what was handed in", kept)(f, api.OK)
		}
	})
}

// P13.3: a number that is answered as it was handed in has memory of its own.
func TestNewNumbers(t *testing.T) {
	mag := string([]byte("an odd number's bytes, as 's' is odd")) + "s"
	a := up(mag, -5)
	var l []api.Num
	keep := func(f api.Form, e api.Errno) { l = append(l, f.C...) }
	keepBoth := func(lower, upper api.Form, e api.Errno) { l = append(append(l, lower.C...), upper.C...) }
	keep(Part(form(nil, a)))
	keep(Part(form([]int{1}, a, a)))
	keep(Part(form([]int{0}, a), 0, 1))
	keep(Part(form([]int{1}, a, a), 1, 0))
	keepBoth(Halve(form([]int{0, 0}, a), 1))
	keepBoth(Halve(form([]int{1}, a, a), 0))
	keepBoth(Halve(form([]int{1, 0}, a, a), 1))
	keepBoth(Cut(form([]int{1}, a, a), 0, dy(1, 0)))
	keepBoth(Cut(form([]int{1}, a, a), 0, dy(0, 0)))
	keepBoth(Cut(form([]int{1}, a, a), 0, dy(3, -2)))
	if len(l) != 28 {
		t.Errorf("%d numbers", len(l))
	}
	for i, got := range l {
		if got != a || unsafe.StringData(got.M.Mag) == unsafe.StringData(mag) {
			t.Errorf("%d: %v", i, got)
		}
	}
}

// P13.4: the parts of a polynomial's form on a box are its forms, with the same degrees, on the parts of the box.
func TestSameForm(t *testing.T) {
	r := rand.New(rand.NewSource(9))
	eachPoly(func(p api.Poly, b api.Box, deg []int) {
		f, e := bern.Of(p, b, deg...)
		if e != api.OK {
			t.Fatal(e)
		}
		on := func(part api.Box) api.Form {
			g, e := bern.Of(p, part, deg...)
			if e != api.OK {
				t.Fatal(e)
			}
			return g
		}
		for axis, x := range b {
			low, high, _ := box.Halve(b, axis)
			are(t, "Halve of "+tell(p, b), on(low), on(high))(Halve(f, axis))
			for _, s := range []api.Num{dy(1, -2), dy(5, -3), up("\x00\x06", -3), dy(1, -20)} {
				low, high := slices.Clone(b), slices.Clone(b)
				at := num(plus(rat(x.Lo), mul(rat(s), less(rat(x.Hi), rat(x.Lo)))))
				low[axis].Hi, high[axis].Lo = at, at
				are(t, "Cut of "+tell(p, b, s), on(low), on(high))(Cut(f, axis, s))
			}
		}
		for n := range 5 {
			halvings := make([]int, n)
			for i := range halvings {
				halvings[i] = r.Intn(2 * len(b))
			}
			part, _ := box.Part(b, halvings...)
			is(t, "Part of "+tell(p, b, halvings), on(part))(Part(f, halvings...))
		}
	})
}

// P13.5: where the parts meet they have the same numbers; the outer faces are the form's own.
func TestMeet(t *testing.T) {
	face := func(f api.Form, axis, side int) api.Form {
		g, e := bern.Face(f, axis, side)
		if e != api.OK {
			t.Fatal(e)
		}
		return g
	}
	eachForm(func(f api.Form) {
		for axis := range f.Deg {
			for _, s := range cuts() {
				lower, upper := parts(t, f, axis, s)
				is(t, "where they meet", face(upper, axis, 0))(face(lower, axis, 1), api.OK)
				is(t, "the lower face", face(f, axis, 0))(face(lower, axis, 0), api.OK)
				is(t, "the upper face", face(f, axis, 1))(face(upper, axis, 1), api.OK)
			}
		}
	})
}

// P13.6: cut along two axes, in either order, a form has the same four parts.
func TestInOrder(t *testing.T) {
	four := func(f api.Form, a, b int, s, r api.Num) (l [4]api.Form) {
		low, high := parts(t, f, a, s)
		l[0], l[1] = parts(t, low, b, r)
		l[2], l[3] = parts(t, high, b, r)
		return l
	}
	eachForm(func(f api.Form) {
		for a := range f.Deg[:min(len(f.Deg), 5)] {
			for b := range a {
				for _, s := range [][2]api.Num{{mid, mid}, {mid, dy(1, -2)}, {dy(-1, 0), dy(5, -1)}, {dy(0, 0), dy(7, -3)}} {
					one, other := four(f, a, b, s[0], s[1]), four(f, b, a, s[1], s[0])
					for i, k := range []int{0, 2, 1, 3} {
						is(t, "in either order: "+tell(f, a, b, s), one[i])(other[k], api.OK)
					}
				}
				for _, h := range [][2]int{{2 * a, 2 * b}, {2*a + 1, 2 * b}, {2 * a, 2*b + 1}, {2*a + 1, 2*b + 1}} {
					one, _ := Part(f, h[0], h[1])
					is(t, "in either order: "+tell(f, h), one)(Part(f, h[1], h[0]))
				}
			}
		}
	})
}

// R7: numbers of 4096 bytes, and Es from -32768 to 32768.
func TestGreat(t *testing.T) {
	r := rand.New(rand.NewSource(10))
	long := func(e int) api.Num {
		b := make([]byte, 4096)
		r.Read(b)
		b[0], b[4095] = b[0]|1, b[4095]|1
		return api.Num{M: api.Int{Neg: r.Intn(2) == 0, Mag: string(b)}, E: e}
	}
	for _, f := range []api.Form{
		form([]int{1}, long(0), long(-32768)),
		form([]int{1}, dy(1, -32768), dy(-3, 32768)),
		form([]int{3}, dy(1, -32768), dy(-1, 0), dy(5, 32768), api.Num{}),
		form([]int{2, 1}, long(9), long(-9), dy(1, 32768), dy(-7, -32768), api.Num{}, long(-32768)),
	} {
		for axis := range f.Deg {
			low, high := cutOf(f, axis, rat(mid))
			are(t, "Halve", low, high)(Halve(f, axis))
			is(t, "Part", low)(Part(f, 2*axis))
			is(t, "Part", high)(Part(f, 2*axis+1))
			for _, s := range []api.Num{long(-32768), long(0), dy(1, -32768), dy(1, 32768), dy(-1, 32768), up("\x00"+strings.Repeat("\xff", 4096), -32768)} {
				low, high := cutOf(f, axis, rat(s))
				are(t, "Cut", low, high)(Cut(f, axis, s))
			}
		}
	}
}

// R1: beyond what is promised, a call comes to its end.
func TestFarEs(t *testing.T) {
	es := []int{math.MinInt, math.MinInt + 1, -1 << 62, -1 << 40, 0, 1 << 40, 1 << 62, math.MaxInt - 1, math.MaxInt}
	for _, e := range es {
		for _, g := range es {
			low, high := down("\x03", e), up("\x05", g)
			f := form([]int{1, 2}, low, high, low, high, up("\x01", e), down("\x07", g))
			is(t, "the form", f)(Part(f))
			for axis := range 2 {
				for _, s := range []api.Num{low, high, up("\x00\x10", e), up("\x00", g), mid, dy(1, 0), {}} {
					Cut(f, axis, s)
				}
				Halve(f, axis)
			}
			Part(f, 0, 1, 2, 3, 3, 2, 1, 0)
		}
	}
}
