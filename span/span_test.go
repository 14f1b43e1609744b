package span

import (
	"math"
	"math/big"
	"math/rand"
	"slices"
	"strings"
	"testing"
	"unsafe"

	"ogee/api"
)

// ff and oo: so many bytes FF, 0.
func ff(n int) string { return strings.Repeat("\xff", n) }
func oo(n int) string { return strings.Repeat("\x00", n) }

// up and down: the number of that size above 0, below it, times 2^e, as it is written.
func up(mag string, e int) api.Num   { return api.Num{M: api.Int{Mag: mag}, E: e} }
func down(mag string, e int) api.Num { return api.Num{M: api.Int{Neg: true, Mag: mag}, E: e} }

// dy: m times 2^e, in the one form; of: n.
func dy(m int64, e int) api.Num { return form(big.NewInt(m), e) }
func of(n int64) api.Num        { return dy(n, 0) }

// to: the span as it is written; ints: between two whole numbers.
func to(lo, hi api.Num) api.Span      { return api.Span{Lo: lo, Hi: hi} }
func ints(lo, hi int64) api.Span      { return to(of(lo), of(hi)) }
func turnedRound(s api.Span) api.Span { return to(s.Hi, s.Lo) }

// form is the one form of n times 2^e, reckoned by the library.
func form(n *big.Int, e int) api.Num {
	if n.Sign() == 0 {
		return api.Num{}
	}
	zeros := n.TrailingZeroBits()
	mag := new(big.Int).Rsh(new(big.Int).Abs(n), zeros)
	return api.Num{M: api.Int{Neg: n.Sign() < 0, Mag: string(mag.Bytes())}, E: e + int(zeros)}
}

// moved is n times 2^e, of a fraction.
func moved(n *big.Rat, e int) *big.Rat {
	if e < 0 {
		return new(big.Rat).Quo(n, new(big.Rat).SetInt(new(big.Int).Lsh(big.NewInt(1), uint(-e))))
	}
	return new(big.Rat).Mul(n, new(big.Rat).SetInt(new(big.Int).Lsh(big.NewInt(1), uint(e))))
}

// number: the library's fractions are what answers are held against.
func number(a api.Num) *big.Rat {
	n := new(big.Rat).SetInt(new(big.Int).SetBytes([]byte(a.M.Mag)))
	if a.M.Neg {
		n.Neg(n)
	}
	return moved(n, a.E)
}

// onGrid answers the ends on the grid of p around all from low to high.
func onGrid(low, high *big.Rat, p int) api.Span {
	floor := func(n *big.Rat) *big.Int {
		n = moved(n, p)
		return new(big.Int).Div(n.Num(), n.Denom())
	}
	ceil := floor(new(big.Rat).Neg(high))
	return to(form(floor(low), -p), form(ceil.Neg(ceil), -p))
}

// fine is so fine a grid that each of the samples' sums and products is of it.
const fine = 1000

// exactly is the span whose ends the library reckoned.
func exactly(low, high *big.Rat) api.Span { return onGrid(low, high, fine) }

// ends answers a span's numbers as it counts, the lower one first.
func ends(s api.Span) (low, high *big.Rat) {
	low, high = number(s.Lo), number(s.Hi)
	if low.Cmp(high) > 0 {
		return high, low
	}
	return low, high
}

// extremes answers the least and the greatest one.
func extremes(l ...*big.Rat) (low, high *big.Rat) {
	return slices.MinFunc(l, (*big.Rat).Cmp), slices.MaxFunc(l, (*big.Rat).Cmp)
}

// numbers are ones around the edges, of both signs: one number at several Es, noughts with a sign or an E, bytes 0 ahead, noughts below, and what chance (always the same) makes.
func numbers() []api.Num {
	l := []api.Num{
		{}, down("", 0), up(oo(2), 9), down(oo(1), -9), of(1), of(-1), up("\x02", -1), down("\x00\x04", -2), of(3), of(-3), dy(1, -1), dy(-1, -1), dy(3, -3), dy(-3, -3), dy(5, 7),
		up("\x00\x50", -4), up("\x01"+oo(8), -70), down(ff(9), -72), up(ff(17)+oo(3), -20), down("\x80"+oo(7)+"\x01", -3), dy(1, -200), dy(-7, 150),
	}
	r := rand.New(rand.NewSource(1))
	for range 8 {
		b := make([]byte, r.Intn(20))
		r.Read(b)
		l = append(l, up(oo(r.Intn(3))+string(b), r.Intn(60)-90), down(string(b), r.Intn(300)-200))
	}
	return l
}

// spans are between many of the numbers: of one number, the right way round, turned round.
func spans() []api.Span {
	var l []api.Span
	many := numbers()
	for i, a := range many {
		l = append(l, to(a, a), to(a, many[(i*7+3)%len(many)]), to(many[(i*5+1)%len(many)], a))
	}
	return append(l, ints(0, 1), ints(1, 0), ints(1, 4), ints(-1, 0), ints(-4, -1), ints(-1, 2), ints(2, -1))
}

// each goes through all pairs of spans.
func each(do func(s, t api.Span)) {
	l := spans()
	for _, s := range l {
		for _, t := range l {
			do(s, t)
		}
	}
}

// is holds an answer against a span; fault holds one with an error against both.
func is(t *testing.T, what string, got, want api.Span) {
	t.Helper()
	if got != want {
		t.Errorf("%s: %v, not %v", what, got, want)
	}
}

func fault(t *testing.T, what string, want api.Span, wrong api.Errno) func(api.Span, api.Errno) {
	return func(got api.Span, e api.Errno) {
		t.Helper()
		if got != want || e != wrong {
			t.Errorf("%s: %v and %d, not %v and %d", what, got, e, want, wrong)
		}
	}
}

// The chapter's examples, row by row.
func TestExamples(t *testing.T) {
	is(t, "Of(3, 1, 2)", Of(of(3), of(1), of(2)), ints(1, 3))
	is(t, "Form(3 to 1)", Form(ints(3, 1)), ints(1, 3))
	if !Has(ints(3, 1), of(2)) {
		t.Error("Has(3 to 1, 2)")
	}

	is(t, "Hull(0 to 1, 3 to 4)", Hull(ints(0, 1), ints(3, 4)), ints(0, 4))
	fault(t, "Meet(0 to 1, 1 to 4)", ints(1, 1), api.OK)(Meet(ints(0, 1), ints(1, 4)))
	fault(t, "Meet(0 to 1, 3 to 4)", api.Span{}, api.ErrNone)(Meet(ints(0, 1), ints(3, 4)))

	is(t, "Add(0 to 1, 3 to 4)", Add(ints(0, 1), ints(3, 4)), ints(3, 5))
	is(t, "Mul(-1 to 2, 3 to 4)", Mul(ints(-1, 2), ints(3, 4)), ints(-4, 8))
	is(t, "Neg(0 to 1)", Neg(ints(0, 1)), ints(-1, 0))

	fault(t, "Quo(1, 3, 2)", to(dy(1, -2), dy(1, -1)), api.OK)(Quo(of(1), of(3), 2))
	fault(t, "Quo(-1, 3, 2)", to(dy(-1, -1), dy(-1, -2)), api.OK)(Quo(of(-1), of(3), 2))
	fault(t, "Quo(1, 4, 2)", to(dy(1, -2), dy(1, -2)), api.OK)(Quo(of(1), of(4), 2))
	fault(t, "Quo(1, 0, 2)", api.Span{}, api.ErrArg)(Quo(of(1), of(0), 2))

	fault(t, "Div(1 to 2, 3 to 4, 1)", ints(0, 1), api.OK)(Div(ints(1, 2), ints(3, 4), 1))
	fault(t, "Div(1 to 2, -1 to 1, 1)", api.Span{}, api.ErrArg)(Div(ints(1, 2), ints(-1, 1), 1))
	is(t, "Out(3/8 to 5/8, 1)", Out(to(dy(3, -3), dy(5, -3)), 1), ints(0, 1))
}

// P5.1
func TestOf(t *testing.T) {
	is(t, "Of none", Of(), api.Span{})
	is(t, "Of a nought", Of(down(oo(1), 5)), api.Span{})
	is(t, "Of one", Of(down("\x00\x06", -1)), ints(-3, -3))
	is(t, "Of two alike", Of(up("\x02", -1), of(1)), ints(1, 1))
	is(t, "Of above 0", Of(of(5), of(9), of(7)), ints(5, 9))
	is(t, "Of below 0", Of(of(-5), of(-9), of(-7)), ints(-9, -5))
	l := numbers()
	for i := range l {
		var row []*big.Rat
		for _, a := range l[i:] {
			row = append(row, number(a))
		}
		is(t, "Of many", Of(l[i:]...), exactly(extremes(row...)))
	}
}

// P5.1, R4
func TestForm(t *testing.T) {
	for _, s := range spans() {
		is(t, "Form", Form(s), exactly(ends(s)))
		is(t, "Form of it turned round", Form(turnedRound(s)), Form(s))
		is(t, "Form of a form", Form(Form(s)), Form(s))
	}
	is(t, "Form of nothing", Form(api.Span{}), api.Span{})
	is(t, "Form of noughts", Form(to(down("", 4), up(oo(2), -4))), api.Span{})
	is(t, "Form of raw ends", Form(to(up("\x00\x06", -1), down("\x04", -2))), ints(-1, 3))
	is(t, "Form of one number, twice", Form(to(up("\x04", -2), up("\x00\x02", -1))), ints(1, 1))
}

// P5.1
func TestHas(t *testing.T) {
	for _, s := range spans() {
		low, high := ends(s)
		for _, a := range numbers() {
			n := number(a)
			if want := low.Cmp(n) <= 0 && n.Cmp(high) <= 0; Has(s, a) != want || Has(turnedRound(s), a) != want {
				t.Errorf("%v in %v: not %v", a, s, want)
			}
		}
		if !Has(s, s.Lo) || !Has(s, s.Hi) {
			t.Errorf("the ends of %v", s)
		}
	}
	for _, c := range []struct {
		a    api.Num
		want bool
	}{{of(1), true}, {of(3), true}, {up("\x04", -2), true}, {up("\x0c", -2), true}, {dy(5, -1), true}, {of(0), false}, {of(4), false}, {dy(1, -9), false}, {dy(3<<20+1, -20), false}, {dy(1<<20-1, -20), false}, {of(-2), false}} {
		if Has(ints(1, 3), c.a) != c.want || Has(ints(3, 1), c.a) != c.want {
			t.Errorf("%v in 1 to 3: not %v", c.a, c.want)
		}
	}
}

// P5.1
func TestWithin(t *testing.T) {
	each(func(s, u api.Span) {
		low, high := ends(s)
		from, till := ends(u)
		if want := from.Cmp(low) <= 0 && high.Cmp(till) <= 0; Within(s, u) != want || Within(turnedRound(s), u) != want || Within(s, turnedRound(u)) != want {
			t.Errorf("%v within %v: not %v", s, u, want)
		}
	})
	for _, c := range []struct {
		s, u api.Span
		want bool
	}{
		{ints(1, 2), ints(0, 3), true}, {ints(2, 1), ints(3, 0), true}, {ints(1, 2), ints(1, 2), true}, {ints(1, 1), ints(1, 2), true}, {ints(2, 2), ints(2, 1), true},
		{ints(0, 3), ints(1, 2), false}, {ints(0, 2), ints(1, 3), false}, {ints(2, 4), ints(1, 3), false}, {ints(4, 5), ints(1, 3), false}, {api.Span{}, api.Span{}, true},
	} {
		if Within(c.s, c.u) != c.want {
			t.Errorf("%v within %v: not %v", c.s, c.u, c.want)
		}
	}
}

// P5.2
func TestHull(t *testing.T) {
	each(func(s, u api.Span) {
		is(t, "Hull of two", Hull(s, u), exactly(extremes(number(s.Lo), number(s.Hi), number(u.Lo), number(u.Hi))))
	})
	l := spans()
	var row []*big.Rat
	for i, s := range l {
		row = append(row, number(s.Hi), number(s.Lo))
		is(t, "Hull of many", Hull(l[:i+1]...), exactly(extremes(row...)))
	}
	is(t, "Hull of none", Hull(), api.Span{})
	is(t, "Hull of one", Hull(ints(3, 1)), ints(1, 3))
	is(t, "Hull above 0", Hull(ints(7, 5), ints(9, 8)), ints(5, 9))
	is(t, "Hull below 0", Hull(ints(-7, -5), ints(-8, -9)), ints(-9, -5))
	is(t, "Hull of one within the other", Hull(ints(1, 9), ints(3, 2)), ints(1, 9))
}

// P5.2
func TestMeet(t *testing.T) {
	each(func(s, u api.Span) {
		low, high := ends(s)
		from, till := ends(u)
		_, low = extremes(low, from)
		high, _ = extremes(high, till)
		want, wrong := api.Span{}, api.ErrNone
		if low.Cmp(high) <= 0 {
			want, wrong = exactly(low, high), api.OK
		}
		fault(t, "Meet", want, wrong)(Meet(s, u))
		fault(t, "Meet, the other way round", want, wrong)(Meet(u, turnedRound(s)))
	})
	fault(t, "Meet at an end", ints(2, 2), api.OK)(Meet(ints(3, 2), ints(2, 0)))
	fault(t, "Meet of one within", ints(2, 3), api.OK)(Meet(ints(9, 1), ints(3, 2)))
	fault(t, "Meet of nearly", api.Span{}, api.ErrNone)(Meet(ints(0, 1), to(dy(1<<40+1, -40), of(2))))
	fault(t, "Meet of noughts", api.Span{}, api.OK)(Meet(api.Span{}, to(down(oo(1), 3), up("", 9))))
}

// P5.3
func TestAdd(t *testing.T) {
	each(func(s, u api.Span) {
		low, high := ends(s)
		from, till := ends(u)
		is(t, "Add", Add(s, u), exactly(from.Add(from, low), till.Add(till, high)))
	})
	l := spans()
	low, high := new(big.Rat), new(big.Rat)
	for i, s := range l {
		from, till := ends(s)
		low.Add(low, from)
		high.Add(high, till)
		is(t, "Add of many", Add(l[:i+1]...), exactly(low, high))
	}
	is(t, "Add of none", Add(), api.Span{})
	is(t, "Add of one", Add(ints(3, 1)), ints(1, 3))
	is(t, "Add of what ends at 0", Add(ints(-1, 1), ints(1, -1), ints(2, 2)), ints(0, 4))
	is(t, "Add of a great many", Add(slices.Repeat([]api.Span{ints(1, -2), to(dy(1, -1), of(3))}, 50000)...), ints(-75000, 200000))
}

// P5.3
func TestNeg(t *testing.T) {
	for _, s := range spans() {
		low, high := ends(s)
		is(t, "Neg", Neg(s), exactly(high.Neg(high), low.Neg(low)))
		is(t, "Neg, twice", Neg(Neg(s)), Form(s))
	}
	is(t, "Neg of a turned one", Neg(ints(5, -3)), ints(-5, 3))
	is(t, "Neg of noughts", Neg(to(down("", 4), up(oo(2), -4))), api.Span{})
}

// P5.3
func TestMul(t *testing.T) {
	each(func(s, u api.Span) {
		var four []*big.Rat
		for _, a := range []api.Num{s.Lo, s.Hi} {
			for _, b := range []api.Num{u.Lo, u.Hi} {
				four = append(four, new(big.Rat).Mul(number(a), number(b)))
			}
		}
		is(t, "Mul", Mul(s, u), exactly(extremes(four...)))
	})
	for _, c := range []struct{ s, u, want api.Span }{
		{ints(2, 3), ints(5, 7), ints(10, 21)}, {ints(-3, -2), ints(5, 7), ints(-21, -10)}, {ints(-3, -2), ints(-7, -5), ints(10, 21)}, {ints(3, -2), ints(7, -5), ints(-15, 21)},
		{ints(-3, 2), ints(-5, 7), ints(-21, 15)}, {ints(-3, 2), ints(5, 7), ints(-21, 14)}, {ints(-3, 2), ints(-7, -5), ints(-14, 21)}, {ints(-3, 2), ints(0, 0), ints(0, 0)}, {ints(-1, 1), ints(-1, 1), ints(-1, 1)},
	} {
		is(t, "Mul", Mul(c.s, c.u), c.want)
		is(t, "Mul, the other way round", Mul(turnedRound(c.u), c.s), c.want)
	}
}

// P5.4
func TestWidthMid(t *testing.T) {
	for _, s := range spans() {
		low, high := ends(s)
		width, sum := new(big.Rat).Sub(high, low), new(big.Rat).Add(high, low)
		is(t, "Width", to(Width(s), Width(turnedRound(s))), exactly(width, width))
		is(t, "Mid", to(Mid(s), Mid(turnedRound(s))), exactly(moved(sum, -1), moved(sum, -1)))
	}
	for _, c := range []struct {
		s          api.Span
		width, mid api.Num
	}{
		{ints(1, 3), of(2), of(2)}, {ints(3, 1), of(2), of(2)}, {ints(0, 1), of(1), dy(1, -1)}, {ints(-1, 1), of(2), of(0)}, {ints(-2, -5), of(3), dy(-7, -1)}, {ints(5, 5), of(0), of(5)}, {api.Span{}, of(0), of(0)},
		{to(dy(1, -9), dy(1, -8)), dy(1, -9), dy(3, -10)}, {to(up("\x00\x04", -2), down("\x04", -2)), of(2), of(0)}, {to(down(oo(1), 9), up("", -9)), of(0), of(0)},
	} {
		if Width(c.s) != c.width || Mid(c.s) != c.mid {
			t.Errorf("%v: Width %v, Mid %v", c.s, Width(c.s), Mid(c.s))
		}
	}
}

// grids are those that quotients are held against.
func grids() []int { return []int{-200, -17, -2, -1, 0, 1, 2, 3, 8, 63, 64, 65, 200, 300} }

// P5.5
func TestQuo(t *testing.T) {
	for _, a := range numbers() {
		for _, b := range numbers() {
			for _, p := range grids() {
				if number(b).Sign() == 0 {
					fault(t, "Quo by 0", api.Span{}, api.ErrArg)(Quo(a, b, p))
					continue
				}
				quo := new(big.Rat).Quo(number(a), number(b))
				fault(t, "Quo", onGrid(quo, quo, p), api.OK)(Quo(a, b, p))
			}
		}
	}
	for _, c := range []struct {
		a, b      api.Num
		p         int
		low, high api.Num
	}{
		{of(1), of(3), 0, of(0), of(1)}, {of(-1), of(3), 0, of(-1), of(0)}, {of(1), of(-3), 0, of(-1), of(0)}, {of(-1), of(-3), 0, of(0), of(1)},
		{of(6), of(3), 0, of(2), of(2)}, {of(6), of(3), 50, of(2), of(2)}, {of(-6), of(3), -1, of(-2), of(-2)}, {of(6), of(-3), -2, of(-4), of(0)},
		{of(7), of(2), 0, of(3), of(4)}, {of(7), of(2), 1, dy(7, -1), dy(7, -1)}, {of(-7), of(2), 0, of(-4), of(-3)},
		{of(0), of(-7), 3, of(0), of(0)}, {down(oo(1), 8), up("\x00\x06", 2), 3, of(0), of(0)}, {of(100), of(7), -3, of(8), of(16)}, {of(100), of(7), -4, of(0), of(16)},
		{dy(1, -32768), of(3), 0, of(0), of(1)}, {dy(-1, -32768), of(3), 0, of(-1), of(0)}, {dy(1, 32768), dy(1, 32768), -1, of(0), of(2)}, {dy(3, -32768), dy(3, -32768), 0, of(1), of(1)},
		{up("\x00\x0c", -1), down("\x30", -3), 4, of(-1), of(-1)}, {dy(1, 100), dy(3, 101), 1, of(0), dy(1, -1)},
	} {
		fault(t, "Quo at an edge", to(c.low, c.high), api.OK)(Quo(c.a, c.b, c.p))
	}
	for _, none := range []api.Num{{}, down("", 0), up(oo(3), -5), down(oo(1), math.MaxInt)} {
		fault(t, "Quo by a nought", api.Span{}, api.ErrArg)(Quo(of(0), none, 2))
		fault(t, "Quo by a nought", api.Span{}, api.ErrArg)(Quo(dy(-3, 9), none, math.MinInt))
	}
}

// P5.5
func TestDiv(t *testing.T) {
	each(func(s, u api.Span) {
		if Has(u, api.Num{}) {
			fault(t, "Div by 0", api.Span{}, api.ErrArg)(Div(s, u, 3))
			return
		}
		var four []*big.Rat
		for _, a := range []api.Num{s.Lo, s.Hi} {
			for _, b := range []api.Num{u.Lo, u.Hi} {
				four = append(four, new(big.Rat).Quo(number(a), number(b)))
			}
		}
		low, high := extremes(four...)
		for _, p := range []int{-2, 0, 5, 100} {
			fault(t, "Div", onGrid(low, high, p), api.OK)(Div(s, u, p))
		}
	})
	for _, c := range []struct {
		s, u api.Span
		p    int
		want api.Span
	}{
		{ints(1, 2), ints(4, 3), 2, to(dy(1, -2), dy(3, -2))}, {ints(-1, 2), ints(1, 2), 0, ints(-1, 2)}, {ints(-1, 2), ints(-1, -2), 0, ints(-2, 1)}, {ints(-2, -1), ints(-2, -1), 1, to(dy(1, -1), of(2))},
		{ints(6, 6), ints(3, 3), 9, ints(2, 2)}, {ints(0, 0), ints(3, 7), 9, ints(0, 0)}, {ints(0, 7), ints(7, 3), 0, ints(0, 3)}, {ints(10, 12), ints(1, 1), -3, ints(8, 16)},
	} {
		fault(t, "Div", c.want, api.OK)(Div(c.s, c.u, c.p))
		fault(t, "Div, turned round", c.want, api.OK)(Div(turnedRound(c.s), turnedRound(c.u), c.p))
	}
	for _, none := range []api.Span{{}, ints(0, 5), ints(5, 0), ints(-5, 0), ints(0, -5), ints(-1, 1), ints(1, -1), to(down(oo(1), 9), of(3)), to(of(-3), up("", 9))} {
		fault(t, "Div by what has 0", api.Span{}, api.ErrArg)(Div(ints(1, 2), none, 1))
		fault(t, "Div of 0 by what has 0", api.Span{}, api.ErrArg)(Div(api.Span{}, none, 1))
	}
}

// P5.5
func TestOut(t *testing.T) {
	for _, s := range spans() {
		low, high := ends(s)
		for _, p := range grids() {
			is(t, "Out", Out(s, p), onGrid(low, high, p))
		}
	}
	third := to(dy(-3, -3), dy(3, -3))
	for p, want := range map[int]api.Span{-1: ints(-2, 2), 0: ints(-1, 1), 1: to(dy(-1, -1), dy(1, -1)), 2: to(dy(-1, -1), dy(1, -1)), 3: third, 9: third} {
		is(t, "Out", Out(third, p), want)
		is(t, "Out, turned round", Out(turnedRound(third), p), want)
	}
	is(t, "Out of a number", Out(to(dy(5, -1), dy(5, -1)), 0), ints(2, 3))
	is(t, "Out of a nought", Out(to(down(oo(1), -9), down("", 3)), 0), api.Span{})
}

// inner answers numbers of a span: its ends, its middle, a number near each end.
func inner(s api.Span) []*big.Rat {
	low, high := ends(s)
	l := []*big.Rat{low, high}
	for _, n := range []int64{1, 4, 7} {
		part := new(big.Rat).Mul(new(big.Rat).Sub(high, low), big.NewRat(n, 8))
		l = append(l, part.Add(part, low))
	}
	return l
}

// inside tells whether a fraction is in a span that was answered.
func inside(s api.Span, n *big.Rat) bool {
	return number(s.Lo).Cmp(n) <= 0 && n.Cmp(number(s.Hi)) <= 0
}

// P5.6
func TestInside(t *testing.T) {
	l := spans()
	for i, s := range l {
		for j := range 9 {
			u := l[(i*5+j*11+2)%len(l)]
			sum, product := Add(s, u), Mul(s, u)
			quo, e := Div(s, u, 7)
			for _, a := range inner(s) {
				for _, b := range inner(u) {
					if !inside(sum, new(big.Rat).Add(a, b)) || !inside(product, new(big.Rat).Mul(a, b)) || !inside(Neg(s), new(big.Rat).Neg(a)) || !inside(Out(s, 7), a) || !inside(Hull(s, u), a) || !inside(Hull(s, u), b) {
						t.Errorf("%v and %v of %v and %v", a, b, s, u)
					}
					if e == api.OK && !inside(quo, new(big.Rat).Quo(a, b)) {
						t.Errorf("%v by %v of %v by %v: %v", a, b, s, u, quo)
					}
				}
			}
			if meet, e := Meet(s, u); e == api.OK && (!Within(meet, s) || !Within(meet, u)) {
				t.Errorf("Meet of %v and %v: %v", s, u, meet)
			}
		}
	}
}

// P5.7
func TestWithinOthers(t *testing.T) {
	l := spans()
	for i, s := range l {
		for j := range 9 {
			u, more := l[(i*7+j*5+1)%len(l)], l[(i*3+j*13+4)%len(l)]
			s2, u2 := Hull(s, more), Hull(u, Neg(more))
			if !Within(Add(s, u), Add(s2, u2)) || !Within(Mul(s, u), Mul(s2, u2)) || !Within(Neg(s), Neg(s2)) || !Within(Out(s, 3), Out(s2, 3)) || !Within(s, s2) {
				t.Errorf("%v and %v in %v and %v", s, u, s2, u2)
			}
			quo, _ := Div(s, u, 3)
			if around, e := Div(s2, u2, 3); e == api.OK && !Within(quo, around) {
				t.Errorf("%v by %v in %v by %v", s, u, s2, u2)
			}
			quo, _ = Div(s, u, 9)
			if around, e := Div(s, u, 8); e == api.OK && !Within(quo, around) {
				t.Errorf("%v by %v: a finer grid's quotient is not within", s, u)
			}
		}
	}
}

// P5.8
func TestTight(t *testing.T) {
	for _, a := range numbers() {
		for _, b := range numbers() {
			for _, p := range grids() {
				s, e := Quo(a, b, p)
				if e != api.OK {
					continue
				}
				quo := moved(new(big.Rat).Quo(number(a), number(b)), p)
				if gap := number(Width(s)); gap.Cmp(moved(big.NewRat(2, 1), -p)) >= 0 || (gap.Sign() == 0) != quo.IsInt() {
					t.Errorf("%v by %v on the grid of %d: %v", a, b, p, s)
				}
			}
		}
	}
	for _, s := range spans() {
		mid, half := Mid(s), moved(number(Width(s)), -1)
		low, high := ends(s)
		if !Has(s, mid) || new(big.Rat).Sub(number(mid), low).Cmp(half) != 0 || new(big.Rat).Sub(high, number(mid)).Cmp(half) != 0 {
			t.Errorf("the middle of %v: %v", s, mid)
		}
	}
}

// R3: rows that are handed in are neither changed, nor is the room behind their ends used.
func TestRowStays(t *testing.T) {
	l := []api.Span{to(up("\x00\x02", 1), down("\x03", -1)), to(down(oo(1), 9), of(-7)), to(up("behind", 1), of(0))}
	kept := slices.Clone(l)
	is(t, "Hull", Hull(l[:2]...), ints(-7, 4))
	is(t, "Add", Add(l[:2]...), to(dy(-17, -1), of(4)))
	if !slices.Equal(l, kept) {
		t.Errorf("%v", l)
	}
	row := []api.Num{up("\x00\x02", 1), down("\x03", -1), up("behind", 1)}
	was := slices.Clone(row)
	is(t, "Of", Of(row[:2]...), to(dy(-3, -1), of(4)))
	if !slices.Equal(row, was) {
		t.Errorf("%v", row)
	}
}

// What is answered is new memory, also where it is the numbers that were handed in, and where both ends are one number.
func TestNewMemory(t *testing.T) {
	a, b := up(string([]byte("an odd number's bytes, as 's' is odds")), -5), up(string([]byte("next ones")), 3)
	minus, none := down(a.M.Mag, a.E), api.Num{}
	s, one := to(a, b), to(a, a)
	meet, _ := Meet(one, Hull(s, to(minus, none)))
	quo, _ := Quo(a, of(1), 5)
	div, _ := Div(one, ints(1, 1), 5)
	for i, x := range []api.Span{Of(a), Of(a, b), Form(s), Form(one), Form(turnedRound(s)), Hull(s), Hull(one, one), meet, Add(s), Add(one), Add(s, to(none, none)), Neg(to(minus, minus)), Mul(one, ints(1, 1)), Out(s, 5), Out(one, 9), quo, div, to(Mid(one), Width(to(none, a))), to(Width(to(minus, none)), b)} {
		at := unsafe.StringData(x.Lo.M.Mag)
		if at == unsafe.StringData(x.Hi.M.Mag) || at == unsafe.StringData(a.M.Mag) || at == unsafe.StringData(b.M.Mag) || unsafe.StringData(x.Hi.M.Mag) == unsafe.StringData(a.M.Mag) {
			t.Errorf("%d: %v", i, x)
		}
	}
}

// R7: numbers of 4096 bytes, and Es from -32768 to 32768.
func TestGreat(t *testing.T) {
	r := rand.New(rand.NewSource(2))
	b := make([]byte, 4096)
	r.Read(b)
	b[0], b[4095] = b[0]|128, b[4095]|1
	n, m := new(big.Int).SetBytes(b), new(big.Int).SetBytes([]byte(ff(4096)))
	low, high := down(string(b), 32768), up(ff(4096), -32768)
	s := to(high, low)
	is(t, "Form", Form(s), to(low, high))
	is(t, "Mul", Mul(s, s), to(form(new(big.Int).Neg(new(big.Int).Mul(n, m)), 0), form(new(big.Int).Mul(n, n), 65536)))
	wide := new(big.Int).Add(new(big.Int).Lsh(n, 65536), m)
	if Width(s) != form(wide, -32768) || Mid(s) != form(wide.Sub(m, new(big.Int).Lsh(n, 65536)), -32769) {
		t.Error("Width, Mid")
	}
	for _, p := range []int{-32768, -32767, -1, 0, 1, 4096, 32767, 32768} {
		for _, c := range []struct {
			a, b api.Num
			n, m *big.Int
		}{
			{up(string(b), 0), up(ff(4096), 0), n, m}, {up(ff(4096), 32768), up(string(b), 32768), m, n}, {down(string(b), -32768), up(ff(2000), -32768), new(big.Int).Neg(n), new(big.Int).SetBytes([]byte(ff(2000)))},
			{dy(1, -32768), of(7), big.NewInt(1), new(big.Int).Lsh(big.NewInt(7), 32768)}, {dy(-1, 32768), of(7), new(big.Int).Lsh(big.NewInt(-1), 32768), big.NewInt(7)}, {of(1), up(ff(4096), 0), big.NewInt(1), m}, {of(5), of(-3), big.NewInt(-5), big.NewInt(3)},
		} {
			quo := new(big.Rat).SetFrac(c.n, c.m)
			fault(t, "Quo", onGrid(quo, quo, p), api.OK)(Quo(c.a, c.b, p))
		}
		is(t, "Out", Out(s, p), onGrid(number(low), number(high), p))
	}
	fault(t, "Quo of the finest E", to(dy(1, -65536), dy(1, -65536)), api.OK)(Quo(dy(1, -32768), dy(1, 32768), 65536))
	fault(t, "Quo of the greatest E", to(dy(-1, 65536), dy(-1, 65536)), api.OK)(Quo(dy(1, 32768), dy(-1, -32768), 0))
}

// R1: whatever E a number has, however fine or coarse a grid is, a call comes to its end; what is answered is in the one form.
func TestFar(t *testing.T) {
	far := []int{math.MinInt, math.MinInt + 1, -1 << 62, -1 << 40, -1, 0, 1, 1 << 40, 1 << 62, math.MaxInt - 1, math.MaxInt}
	for _, e := range far {
		for _, f := range far {
			for _, a := range []api.Num{up("\x01", e), down("\x06", e), down(oo(1), e), up(ff(20), e)} {
				b := down("\x03", f)
				s, u := to(a, b), to(b, a)
				meet, _ := Meet(s, u)
				quo, wrong := Quo(a, b, 3)
				div, _ := Div(to(a, a), to(b, b), f)
				for i, x := range []api.Span{Of(a, b), Form(s), Hull(s, u), Add(s, u), Neg(s), Mul(s, u), Out(s, e), meet, quo, div, to(Mid(s), Mid(u)), to(Width(s), Width(u))} {
					if x != to(Of(x.Lo).Lo, Of(x.Hi).Hi) || wrong != api.OK {
						t.Errorf("%d of %v: %v", i, s, x)
					}
				}
				if !Has(s, a) || !Has(s, b) || !Within(u, s) || Width(to(a, a)) != (api.Num{}) {
					t.Errorf("%v in itself", s)
				}
			}
		}
		fault(t, "Quo of a number by itself", ints(1, 1), api.OK)(Quo(dy(3, e), dy(3, e), 0))
		fault(t, "Quo of a number by itself", ints(1, 1), api.OK)(Quo(up("\x0a", -1), up("\x05", 0), max(e, 0)))
	}
}

// P5.5: a quotient that is dyadic is told on the finest grid; on the coarsest ones there is little between 0 and a step.
func TestFarGrids(t *testing.T) {
	for _, p := range []int{1 << 40, 1 << 62, math.MaxInt} {
		fault(t, "on a fine grid", to(dy(-3, -2), dy(-3, -2)), api.OK)(Quo(of(-9), of(12), p))
		fault(t, "on a fine grid", to(dy(-3, -2), of(3)), api.OK)(Div(ints(-9, 36), ints(12, 12), p))
		fault(t, "on a coarse grid", to(of(0), dy(1, p)), api.OK)(Quo(of(1), of(3), -p))
		fault(t, "on a coarse grid", to(dy(-1, p), of(0)), api.OK)(Quo(of(5), of(-1), -p))
		fault(t, "on a coarse grid", to(of(0), of(0)), api.OK)(Quo(of(0), of(-1), -p))
		is(t, "Out on a fine grid", Out(to(dy(3, -9), of(-1)), p), to(of(-1), dy(3, -9)))
		is(t, "Out on a coarse grid", Out(ints(1, -1), -p), to(dy(-1, p), dy(1, p)))
	}
}

// R1: on a grid that is too fine for a quotient that is no dyadic, nothing is promised; what is answered is of a coarser grid then, but around it.
func TestTooFine(t *testing.T) {
	for _, p := range []int{most + 1, 1 << 40, math.MaxInt} {
		for _, c := range [][2]int64{{1, 3}, {-1, 3}, {22, -7}} {
			s, e := Quo(of(c[0]), of(c[1]), p)
			coarse, _ := Quo(of(c[0]), of(c[1]), 1000)
			if e != api.OK || !Within(s, coarse) || number(Width(s)).Cmp(moved(big.NewRat(16, 1), -most)) > 0 || !inside(s, big.NewRat(c[0], c[1])) {
				t.Errorf("%v on the grid of %d", c, p)
			}
		}
	}
}
