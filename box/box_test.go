package box

import (
	"math"
	"math/big"
	"math/rand"
	"slices"
	"strings"
	"testing"
	"unsafe"

	"ogee/api"
)

// up and down: the number of that size above 0, below it, times 2^e. They needn't be in the one form.
func up(mag string, e int) api.Num   { return api.Num{M: api.Int{Mag: mag}, E: e} }
func down(mag string, e int) api.Num { return api.Num{M: api.Int{Neg: true, Mag: mag}, E: e} }

// dy: m times 2^e, in the one form; of: n.
func dy(m int64, e int) api.Num {
	n := new(big.Int).Abs(big.NewInt(m))
	return num(rat(api.Num{M: api.Int{Neg: m < 0, Mag: string(n.Bytes())}, E: e}))
}

func of(n int64) api.Num { return dy(n, 0) }

// rat and num: the library's fractions are what answers are held against. num tells the one form.
func rat(a api.Num) *big.Rat {
	n := new(big.Int).SetBytes([]byte(a.M.Mag))
	if a.M.Neg {
		n.Neg(n)
	}
	if a.E >= 0 {
		return new(big.Rat).SetInt(n.Lsh(n, uint(a.E)))
	}
	return new(big.Rat).SetFrac(n, new(big.Int).Lsh(big.NewInt(1), uint(-a.E)))
}

func num(r *big.Rat) api.Num {
	if r.Sign() == 0 {
		return api.Num{}
	}
	zeros := r.Num().TrailingZeroBits()
	mag := new(big.Int).Rsh(new(big.Int).Abs(r.Num()), zeros)
	return api.Num{M: api.Int{Neg: r.Sign() < 0, Mag: string(mag.Bytes())}, E: int(zeros) - r.Denom().BitLen() + 1}
}

// to is the span as it is written; ints makes a box of whole numbers, two an axis, and at a point of them.
func to(lo, hi api.Num) api.Span { return api.Span{Lo: lo, Hi: hi} }

func ints(l ...int64) api.Box {
	var b api.Box
	for i := 0; i < len(l); i += 2 {
		b = append(b, to(of(l[i]), of(l[i+1])))
	}
	return b
}

func at(l ...int64) api.Point {
	var p api.Point
	for _, n := range l {
		p = append(p, of(n))
	}
	return p
}

// axis is a span by the library's fractions, as it counts: the lower end first.
type axis struct{ lo, hi *big.Rat }

func axes(b api.Box) []axis {
	var l []axis
	for _, s := range b {
		x := axis{rat(s.Lo), rat(s.Hi)}
		if x.lo.Cmp(x.hi) > 0 {
			x.lo, x.hi = x.hi, x.lo
		}
		l = append(l, x)
	}
	return l
}

func (x axis) span() api.Span      { return to(num(x.lo), num(x.hi)) }
func (x axis) width() *big.Rat     { return new(big.Rat).Sub(x.hi, x.lo) }
func (x axis) has(n *big.Rat) bool { return x.lo.Cmp(n) <= 0 && n.Cmp(x.hi) <= 0 }
func (x axis) within(y axis) bool  { return y.has(x.lo) && y.has(x.hi) }
func (x axis) halves() (low, up axis) {
	mid := x.at(big.NewRat(1, 2))
	return axis{x.lo, mid}, axis{mid, x.hi}
}

// at answers how far t goes along the axis.
func (x axis) at(t *big.Rat) *big.Rat {
	far := new(big.Rat).Mul(t, x.width())
	return far.Add(far, x.lo)
}

// boxOf is the box of these axes, as it should be answered.
func boxOf(l []axis) api.Box {
	var b api.Box
	for _, x := range l {
		b = append(b, x.span())
	}
	return b
}

// raw makes numbers of what chance says, in any form: noughts too, with signs and Es.
func raw(r *rand.Rand) api.Num {
	b := make([]byte, r.Intn(12))
	r.Read(b)
	mag := strings.Repeat("\x00", r.Intn(3)) + string(b) + strings.Repeat("\x00", r.Intn(3))
	if r.Intn(6) == 0 {
		mag = strings.Repeat("\x00", r.Intn(3))
	}
	return api.Num{M: api.Int{Neg: r.Intn(2) == 0, Mag: mag}, E: r.Intn(120) - 60}
}

// build makes a box of what each axis has.
func build(n int, do func(i int) api.Span) api.Box {
	var b api.Box
	for i := range n {
		b = append(b, do(i))
	}
	return b
}

// samples are boxes with so many axes: noughts, units, like axes, turned round, without room, what chance (the same each time) makes, in the one form and not.
func samples(n int) []api.Box {
	r := rand.New(rand.NewSource(int64(n)))
	small := func() api.Num { return dy(int64(r.Intn(9)-4), -r.Intn(3)) }
	var l []api.Box
	for _, do := range []func(i int) api.Span{
		func(i int) api.Span { return to(of(0), of(0)) },
		func(i int) api.Span { return to(of(0), of(1)) },
		func(i int) api.Span { return to(of(1), of(-1)) },
		func(i int) api.Span { return to(of(int64(i)), of(int64(2*i+1))) },
		func(i int) api.Span { return to(of(int64(-i)), of(int64(3-2*i))) },
		func(i int) api.Span { return to(dy(3, -i), dy(5, i)) },
		func(i int) api.Span { return to(up("\x00\x04", -1-i%2), down(strings.Repeat("\x00", i%3), 9)) },
		func(i int) api.Span { return to(small(), small()) },
		func(i int) api.Span { return to(small(), small()) },
		func(i int) api.Span { return to(small(), small()) },
		func(i int) api.Span { return to(raw(r), raw(r)) },
		func(i int) api.Span { return to(raw(r), raw(r)) },
		func(i int) api.Span { return to(raw(r), raw(r)) },
	} {
		l = append(l, build(n, do))
	}
	return l
}

// boxes goes through the samples of up to six axes, and through some of many.
func boxes(do func(b api.Box)) {
	for _, n := range []int{0, 1, 2, 3, 4, 5, 6, 12, 70} {
		for _, b := range samples(n) {
			do(b)
		}
	}
}

// The checks hold an answer against what it should be.
func is[T comparable](t *testing.T, what string, got, want T) {
	t.Helper()
	if got != want {
		t.Errorf("%s: %v, not %v", what, got, want)
	}
}

func isBox(t *testing.T, what string, got, want api.Box) {
	t.Helper()
	if !slices.Equal(got, want) {
		t.Errorf("%s: %v, not %v", what, got, want)
	}
}

func isPoint(t *testing.T, what string, got, want api.Point) {
	t.Helper()
	if !slices.Equal(got, want) {
		t.Errorf("%s: %v, not %v", what, got, want)
	}
}

func isPart(t *testing.T, what string, want api.Box) func(b api.Box, e api.Errno) {
	return func(b api.Box, e api.Errno) {
		t.Helper()
		is(t, what, e, api.OK)
		isBox(t, what, b, want)
	}
}

func noPart(t *testing.T, what string) func(b api.Box, e api.Errno) {
	return func(b api.Box, e api.Errno) {
		t.Helper()
		if e != api.ErrArg || len(b) != 0 {
			t.Errorf("%s: %v, %d", what, b, e)
		}
	}
}

func areHalves(t *testing.T, what string, low, high api.Box) func(a, b api.Box, e api.Errno) {
	return func(a, b api.Box, e api.Errno) {
		t.Helper()
		is(t, what, e, api.OK)
		isBox(t, what+", the lower one", a, low)
		isBox(t, what+", the upper one", b, high)
	}
}

func noHalves(t *testing.T, what string) func(a, b api.Box, e api.Errno) {
	return func(a, b api.Box, e api.Errno) {
		t.Helper()
		if e != api.ErrArg || len(a) != 0 || len(b) != 0 {
			t.Errorf("%s: %v, %v, %d", what, a, b, e)
		}
	}
}

// The chapter's examples, row by row.
func TestExamples(t *testing.T) {
	b := ints(0, 4, 0, 2)
	is(t, "Check", Check(b), api.OK)
	is(t, "Check of 0 to 0", Check(ints(0, 0)), api.ErrFlat)
	is(t, "Check of nothing", Check(nil), api.ErrArg)

	is(t, "Widest", Widest(b), 0)
	is(t, "Volume", Volume(b), of(8))
	isPoint(t, "Mid", Mid(b), at(2, 1))

	isPoint(t, "Corner(1)", Corner(b, 1), at(4, 0))
	isPoint(t, "Corner(2)", Corner(b, 2), at(0, 2))
	isPoint(t, "Place(1/2)", Place(b, api.Point{dy(1, -1)}), at(2, 0))

	areHalves(t, "Halve(0)", ints(0, 2, 0, 2), ints(2, 4, 0, 2))(Halve(b, 0))
	noHalves(t, "Halve(2)")(Halve(b, 2))

	isPart(t, "Part(1, 2)", ints(2, 4, 0, 1))(Part(b, 1, 2))
	noPart(t, "Part(4)")(Part(b, 4))
}

// P11.1: room is asked of the spans as they are handed in.
func TestCheck(t *testing.T) {
	boxes(func(b api.Box) {
		want := api.OK
		for _, s := range b {
			if rat(s.Lo).Cmp(rat(s.Hi)) >= 0 {
				want = api.ErrFlat
			}
		}
		if len(b) == 0 {
			want = api.ErrArg
		}
		is(t, "Check", Check(b), want)
	})
	is(t, "no axes", Check(api.Box{}), api.ErrArg)
	is(t, "a flat one, raw", Check(api.Box{to(up("\x04", -2), up("\x00\x01", 0))}), api.ErrFlat)
	is(t, "a flat one of noughts", Check(api.Box{to(down("\x00", 5), up("", -5))}), api.ErrFlat)
	is(t, "nearly flat", Check(api.Box{to(dy(1<<60, 0), dy(1<<60+1, 0))}), api.OK)
	is(t, "nearly flat, turned round", Check(api.Box{to(dy(1<<60+1, 0), dy(1<<60, 0))}), api.ErrFlat)
	is(t, "raw, with room", Check(api.Box{to(down("\x00\x04", -2), up("\x00\x00", 7))}), api.OK)
	for n := 1; n < 80; n += 6 {
		for i := range n {
			b := build(n, func(k int) api.Span { return to(of(int64(-k)), of(int64(k+1))) })
			is(t, "with room", Check(b), api.OK)
			b[i] = to(of(3), of(3))
			is(t, "one axis without", Check(b), api.ErrFlat)
			b[i] = to(of(4), of(3))
			is(t, "one axis turned round", Check(b), api.ErrFlat)
		}
	}
}

// P11.1, R4
func TestForm(t *testing.T) {
	boxes(func(b api.Box) {
		isBox(t, "Form", Form(b), boxOf(axes(b)))
		isBox(t, "Form of it", Form(Form(b)), boxOf(axes(b)))
	})
	isBox(t, "Form of nothing", Form(nil), nil)
	isBox(t, "Form of no axes", Form(api.Box{}), nil)
	isBox(t, "Form of 3 to 1", Form(ints(3, 1, 2, 5)), ints(1, 3, 2, 5))
	isBox(t, "Form of raw numbers", Form(api.Box{to(up("\x00\x06", -1), down("\x00", 3))}), ints(0, 3))
}

// around answers points about a box: its corners, its middle, and points a little outside, on one axis or on all.
func around(b api.Box) []api.Point {
	var l []api.Point
	for _, t := range []*big.Rat{{}, big.NewRat(1, 1), big.NewRat(1, 2), big.NewRat(3, 8), big.NewRat(-1, 8), big.NewRat(9, 8)} {
		for i := -1; i < min(len(b), 7); i++ {
			var p api.Point
			for k, x := range axes(b) {
				place := x.at(t)
				if i >= 0 && i != k {
					place = x.at(big.NewRat(1, 4))
				}
				p = append(p, num(place))
			}
			l = append(l, p)
		}
	}
	return l
}

// hasOf and withinOf are what Has and Within should answer.
func hasOf(b api.Box, p api.Point) bool {
	in := len(b) == len(p)
	for i, x := range axes(b) {
		in = in && x.has(rat(p[i]))
	}
	return in
}

func withinOf(a, b api.Box) bool {
	in, other := len(a) == len(b), axes(b)
	for i, x := range axes(a) {
		in = in && x.within(other[i])
	}
	return in
}

// P11.2
func TestHas(t *testing.T) {
	boxes(func(b api.Box) {
		for _, p := range around(b) {
			is(t, "Has", Has(b, p), hasOf(b, p))
			is(t, "Has of one number more", Has(b, append(slices.Clone(p), of(0))), false)
			if len(p) > 0 {
				is(t, "Has of one number less", Has(b, p[1:]), false)
			}
		}
	})
	is(t, "nothing in nothing", Has(nil, nil), true)
	is(t, "nothing in nothing", Has(api.Box{}, api.Point{}), true)
	is(t, "a point in nothing", Has(nil, at(0)), false)
	is(t, "nothing in a box", Has(ints(0, 1), nil), false)
	b := ints(0, 4, 2, -1)
	for _, c := range []struct {
		p    api.Point
		want bool
	}{
		{at(0, -1), true}, {at(4, 2), true}, {at(0, 2), true}, {at(1, 1), true}, {at(-1, 1), false}, {at(5, 1), false}, {at(1, -2), false}, {at(1, 3), false}, {at(1), false}, {at(1, 1, 1), false},
		{api.Point{dy(-1, -90), of(1)}, false}, {api.Point{dy(1, -90), up("\x04", -1)}, true}, {api.Point{of(1), dy(1<<50+1, -49)}, false}, {api.Point{down("\x00", 7), down("\x00\x04", -2)}, true},
	} {
		is(t, "Has", Has(b, c.p), c.want)
	}
}

// P11.2
func TestWithin(t *testing.T) {
	for _, n := range []int{0, 1, 2, 3, 5, 12, 70} {
		l := samples(n)
		for _, b := range samples(n) {
			for i := range min(n, 3) {
				in, out := slices.Clone(b), slices.Clone(b)
				low, _ := axes(b)[i].halves()
				in[i] = low.span()
				out[i] = to(num(low.lo), num(axes(b)[i].at(big.NewRat(9, 8))))
				l = append(l, in, out)
			}
		}
		for i, a := range l {
			for _, b := range append(l[:min(len(l), 13)], l[i]) {
				is(t, "Within", Within(a, b), withinOf(a, b))
			}
			is(t, "of one axis more", Within(append(slices.Clone(a), to(of(0), of(0))), a), false)
			is(t, "within one axis more", Within(a, append(slices.Clone(a), to(of(0), of(0)))), false)
		}
	}
	is(t, "nothing within nothing", Within(nil, api.Box{}), true)
	is(t, "nothing within a box", Within(nil, ints(0, 1)), false)
	is(t, "a box within nothing", Within(ints(0, 1), nil), false)
	is(t, "turned round", Within(ints(2, 1, 4, 3), ints(3, 0, 3, 4)), true)
	is(t, "the greater one", Within(ints(0, 3, 3, 4), ints(1, 2, 3, 4)), false)
	is(t, "the second axis out", Within(ints(1, 2, 2, 4), ints(0, 3, 3, 4)), false)
	is(t, "the second axis out above", Within(ints(1, 2, 3, 5), ints(0, 3, 3, 4)), false)
}

// widestOf and volumeOf are what Widest and Volume should answer.
func widestOf(b api.Box) int {
	first, most := -1, new(big.Rat)
	for i, x := range axes(b) {
		if first < 0 || x.width().Cmp(most) > 0 {
			first, most = i, x.width()
		}
	}
	return first
}

func volumeOf(b api.Box) *big.Rat {
	product := big.NewRat(1, 1)
	for _, x := range axes(b) {
		product.Mul(product, x.width())
	}
	return product
}

// P11.3
func TestWidest(t *testing.T) {
	boxes(func(b api.Box) { is(t, "Widest", Widest(b), widestOf(b)) })
	is(t, "of nothing", Widest(nil), -1)
	is(t, "of no axes", Widest(api.Box{}), -1)
	is(t, "of flat ones", Widest(ints(3, 3, 5, 5)), 0)
	is(t, "of like ones", Widest(ints(0, 1, 1, 3, 4, 6, 7, 8)), 1)
	is(t, "of like ones, turned round", Widest(ints(0, 1, 3, 1, 4, 6, 9, 7)), 1)
	is(t, "turned round", Widest(ints(0, 1, 7, -7, 4, 6)), 1)
	is(t, "the last one", Widest(ints(0, 1, 0, 2, 0, 3)), 2)
	is(t, "below 0", Widest(ints(-9, -8, -9, -6, -9, -7)), 1)
	is(t, "by a little", Widest(api.Box{to(of(0), dy(1<<60, 0)), to(of(0), dy(1<<60+1, 0))}), 1)
	is(t, "alike, raw", Widest(api.Box{ints(3, 3)[0], to(up("\x04", -1), of(4)), ints(1, 3)[0]}), 1)
}

// P11.3
func TestVolume(t *testing.T) {
	boxes(func(b api.Box) { is(t, "Volume", Volume(b), num(volumeOf(b))) })
	is(t, "of nothing", Volume(nil), of(1))
	is(t, "of no axes", Volume(api.Box{}), of(1))
	is(t, "of one", Volume(ints(-2, 5)), of(7))
	is(t, "turned round", Volume(ints(3, 1, 1, 4)), of(6))
	is(t, "one flat", Volume(ints(0, 3, 4, 4, 0, 9)), of(0))
	is(t, "halves", Volume(api.Box{to(of(0), dy(1, -1)), to(dy(1, -2), dy(5, -2))}), dy(1, -1))
	is(t, "a great many", Volume(slices.Repeat(ints(1, 3), 30000)), dy(1, 30000))
}

// P11.4, R4
func TestMid(t *testing.T) {
	boxes(func(b api.Box) {
		var want api.Point
		for _, x := range axes(b) {
			want = append(want, num(x.at(big.NewRat(1, 2))))
		}
		isPoint(t, "Mid", Mid(b), want)
	})
	isPoint(t, "of nothing", Mid(nil), nil)
	isPoint(t, "of 3 to 1, -1 to 0", Mid(ints(3, 1, -1, 0)), api.Point{of(2), dy(-1, -1)})
}

// cornerOf is what Corner should answer.
func cornerOf(b api.Box, k int) api.Point {
	bits := big.NewInt(int64(max(k, 0)) & (1<<62 - 1))
	var p api.Point
	for i, x := range axes(b) {
		if bits.Bit(i) == 1 {
			p = append(p, num(x.hi))
		} else {
			p = append(p, num(x.lo))
		}
	}
	return p
}

// P11.4, R4
func TestCorner(t *testing.T) {
	boxes(func(b api.Box) {
		for k := range 1 << min(len(b), 6) {
			isPoint(t, "Corner", Corner(b, k), cornerOf(b, k))
		}
		for _, k := range []int{-1, -2, -3, math.MinInt, math.MinInt + 1, 1 << 6, 1<<7 - 1, 1 << 60, 1 << 61, 1<<61 - 1, 1 << 62, 1<<62 - 1, 1<<62 + 1, math.MaxInt - 1, math.MaxInt} {
			isPoint(t, "Corner", Corner(b, k), cornerOf(b, k))
		}
	})
	isPoint(t, "of nothing", Corner(nil, 1), nil)
	isPoint(t, "all Hi", Corner(ints(0, 1, 2, 3, 4, 5), 7), at(1, 3, 5))
	isPoint(t, "all Lo", Corner(ints(0, 1, 2, 3, 4, 5), -1), at(0, 2, 4))
	isPoint(t, "more bits than axes", Corner(ints(0, 1, 2, 3), 14), at(0, 3))
	isPoint(t, "turned round", Corner(ints(1, 0, 2, 3), 2), at(0, 3))
	isPoint(t, "turned round", Corner(ints(1, 0, 2, 3), 1), at(1, 2))
	many := slices.Repeat(ints(0, 1), 70)
	for i := range many {
		want := make(api.Point, 70)
		if i < 62 {
			want[i] = of(1)
			isPoint(t, "one bit", Corner(many, 1<<i), want)
		} else {
			isPoint(t, "bit 62", Corner(many, 1<<62), want)
		}
	}
	all := append(slices.Repeat(at(1), 62), make(api.Point, 8)...)
	isPoint(t, "all bits", Corner(many, math.MaxInt), all)
	isPoint(t, "all bits, below 0", Corner(many, -1), make(api.Point, 70))
}

// placeOf is what Place should answer.
func placeOf(b api.Box, t api.Point) api.Point {
	var p api.Point
	for i, x := range axes(b) {
		share := new(big.Rat)
		if i < len(t) {
			share = rat(t[i])
		}
		p = append(p, num(x.at(share)))
	}
	return p
}

// P11.4, R4: at any t, also outside of 0 to 1, and with fewer numbers than axes, or more.
func TestPlace(t *testing.T) {
	r := rand.New(rand.NewSource(4))
	boxes(func(b api.Box) {
		for n := range min(len(b), 8) + 3 {
			for _, some := range []func() api.Num{
				func() api.Num { return of(0) },
				func() api.Num { return of(1) },
				func() api.Num { return dy(1, -1) },
				func() api.Num { return dy(int64(r.Intn(33)-16), -3) },
				func() api.Num { return raw(r) },
			} {
				share := make(api.Point, n)
				for i := range share {
					share[i] = some()
				}
				isPoint(t, "Place", Place(b, share), placeOf(b, share))
			}
		}
	})
	isPoint(t, "in nothing", Place(nil, at(1, 2)), nil)
	isPoint(t, "nowhere along", Place(ints(1, 4, 9, 5), nil), at(1, 5))
	isPoint(t, "all along", Place(ints(1, 4, 9, 5), at(1, 1)), at(4, 9))
	isPoint(t, "too far", Place(ints(1, 4, 9, 5), at(2, -1)), at(7, 1))
	isPoint(t, "more t's than axes", Place(ints(1, 4), at(1, 7, 7)), at(4))
	isPoint(t, "a flat one", Place(ints(3, 3), at(5)), at(3))
}

// halvesOf is what Halve should answer, if there is that axis.
func halvesOf(b api.Box, i int) (low, high api.Box) {
	low, high = boxOf(axes(b)), boxOf(axes(b))
	x, y := axes(b)[i].halves()
	low[i], high[i] = x.span(), y.span()
	return low, high
}

// P11.5, R4
func TestHalve(t *testing.T) {
	boxes(func(b api.Box) {
		for i := range b {
			low, high := halvesOf(b, i)
			areHalves(t, "Halve", low, high)(Halve(b, i))
		}
		for _, i := range []int{-1, -2, len(b), len(b) + 1, 1 << 40, math.MinInt, math.MaxInt} {
			noHalves(t, "Halve")(Halve(b, i))
		}
	})
	noHalves(t, "of nothing")(Halve(nil, 0))
	areHalves(t, "of a flat one", ints(3, 3), ints(3, 3))(Halve(ints(3, 3), 0))
	areHalves(t, "turned round", ints(1, 2, 5, 7), ints(2, 3, 5, 7))(Halve(ints(3, 1, 7, 5), 0))
	areHalves(t, "the last one", ints(0, 1, 4, 6), ints(0, 1, 6, 8))(Halve(ints(0, 1, 4, 8), 1))
	areHalves(t, "to a half", api.Box{to(of(0), dy(1, -1))}, api.Box{to(dy(1, -1), of(1))})(Halve(ints(0, 1), 0))
}

// partOf is what Part should answer, if each halving may be.
func partOf(b api.Box, halvings []int) api.Box {
	part := boxOf(axes(b))
	for _, n := range halvings {
		low, high := halvesOf(part, n/2)
		part = []api.Box{low, high}[n%2]
	}
	return part
}

// P11.5, R4
func TestPart(t *testing.T) {
	r := rand.New(rand.NewSource(5))
	boxes(func(b api.Box) {
		isPart(t, "without a halving", boxOf(axes(b)))(Part(b))
		for _, count := range []int{1, 2, 3, 5, 9} {
			if len(b) == 0 || len(b) > 12 {
				continue
			}
			halvings := make([]int, count)
			for i := range halvings {
				halvings[i] = r.Intn(2 * len(b))
			}
			isPart(t, "Part", partOf(b, halvings))(Part(b, halvings...))
			for i := range halvings {
				for _, n := range []int{-1, -2, -3, math.MinInt, 2 * len(b), 2*len(b) + 1, math.MaxInt} {
					wrong := slices.Clone(halvings)
					wrong[i] = n
					noPart(t, "with a wrong one")(Part(b, wrong...))
				}
			}
		}
		for i := range b {
			low, high, _ := Halve(b, i)
			isPart(t, "the lower half", low)(Part(b, 2*i))
			isPart(t, "the upper half", high)(Part(b, 2*i+1))
		}
	})
	noPart(t, "of nothing")(Part(nil, 0))
	noPart(t, "of nothing")(Part(nil, -1))
	isPart(t, "of nothing, without a halving", nil)(Part(nil))
	noPart(t, "-1 is no half of axis 0")(Part(ints(0, 1), -1))
	isPart(t, "turned round", ints(2, 3, 5, 6))(Part(ints(3, 1, 7, 5), 1, 2))
	isPart(t, "one axis", api.Box{to(dy(5, -3), dy(3, -2))})(Part(ints(0, 1), 1, 0, 1))
	isPart(t, "a flat one", ints(3, 3))(Part(ints(3, 3), 0, 1, 1, 0))
}

// P11.5: as many halvings as numbers have Es for.
func TestManyHalvings(t *testing.T) {
	halvings := make([]int, 32768)
	isPart(t, "to the lower end", api.Box{to(of(0), dy(1, -32768))})(Part(ints(0, 1), halvings...))
	isPart(t, "from far above", api.Box{to(of(0), of(1))})(Part(api.Box{to(of(0), dy(1, 32768))}, halvings...))
	for i := range halvings {
		halvings[i] = 3
	}
	ones := up(strings.Repeat("\xff", 4096), -32768)
	isPart(t, "to the upper end", api.Box{to(of(0), of(1)), to(ones, of(1))})(Part(ints(0, 1, 1, 0), halvings...))
	each := api.Box{}
	order := make([]int, 3000)
	for i := range order {
		order[i] = 2 * i
		each = append(each, to(of(0), of(2)))
	}
	isPart(t, "each of many axes", slices.Repeat(ints(0, 1), 3000))(Part(each, order...))
}

// P11.6, R3: what is handed in stays, also in the room behind its end.
func TestStays(t *testing.T) {
	boxes(func(b api.Box) {
		n := len(b)
		room := append(slices.Clone(b), slices.Repeat(api.Box{to(up("behind", 7), up("\x00", 3))}, 3)...)
		other := append(slices.Clone(b), slices.Repeat(api.Box{to(up("behind", 8), up("\x00", 4))}, 3)...)
		point := make(api.Point, n+3)
		for i := range point {
			point[i] = down("\x00\x06", i)
		}
		halvings := make([]int, n+3)
		for i := range halvings {
			halvings[i] = 2*i + i%2
		}
		kept, keptOther, keptPoint, keptHalvings := slices.Clone(room), slices.Clone(other), slices.Clone(point), slices.Clone(halvings)
		want, wantPlace := boxOf(axes(b)), placeOf(b, point[:n])
		Check(room[:n])
		isBox(t, "Form", Form(room[:n]), want)
		Has(room[:n], point[:n])
		Within(room[:n], other[:n])
		Widest(room[:n])
		Volume(room[:n])
		Mid(room[:n])
		Corner(room[:n], 5)
		isPoint(t, "Place", Place(room[:n], point[:n]), wantPlace)
		for i := range n {
			Halve(room[:n], i)
		}
		noHalves(t, "Halve")(Halve(room[:n], n))
		isPart(t, "Part", partOf(b, halvings[:n]))(Part(room[:n], halvings[:n]...))
		noPart(t, "Part")(Part(room[:n], halvings...))
		if !slices.Equal(room, kept) || !slices.Equal(other, keptOther) || !slices.Equal(point, keptPoint) || !slices.Equal(halvings, keptHalvings) {
			t.Errorf("changed: %v", b)
		}
	})
}

// P11.6: what is answered belongs to the caller: it has no memory of what was handed in, and the halves none of each other.
func TestNewMemory(t *testing.T) {
	spoil := func(b api.Box) {
		for i := range b {
			b[i] = to(up("spoilt", i), down("spoilt", i))
		}
		_ = append(b, to(up("spoilt", 9), up("spoilt", 9)))
	}
	boxes(func(b api.Box) {
		b = Form(b) // in the one form, so that nothing needs to be made anew
		kept := slices.Clone(b)
		whole, _ := Part(b)
		formed := Form(b)
		spoil(formed)
		isBox(t, "Part without a halving", whole, kept)
		spoil(whole)
		for i := range b {
			low, high, _ := Halve(b, i)
			wantLow, wantHigh := halvesOf(b, i)
			spoil(low)
			isBox(t, "the upper half, when the lower one is spoilt", high, wantHigh)
			low, high, _ = Halve(b, i)
			spoil(high)
			isBox(t, "the lower half, when the upper one is spoilt", low, wantLow)
			part, _ := Part(b, 2*i)
			spoil(part)
			isBox(t, "what was handed in", b, kept)
		}
		for _, answer := range []func() api.Point{
			func() api.Point { return Mid(b) },
			func() api.Point { return Corner(b, 3) },
			func() api.Point { return Place(b, at(1, 0)) },
		} {
			first := answer()
			want := slices.Clone(first)
			for i := range first {
				first[i] = up("spoilt", i)
			}
			isPoint(t, "a point", answer(), want)
		}
		isBox(t, "what was handed in", b, kept)
	})
}

// P11.6: a number that is answered as it was handed in has memory of its own.
func TestNewNumbers(t *testing.T) {
	mag := string([]byte("an odd number's bytes, as 's' is odd")) + "s"
	a := up(mag, -5)
	b := api.Box{to(a, a), to(a, a)}
	low, high, _ := Halve(b, 0)
	part, _ := Part(b, 3)
	var l []api.Num
	for _, s := range slices.Concat(Form(b), low, high, part) {
		l = append(l, s.Lo, s.Hi)
	}
	for _, got := range slices.Concat(l, Mid(b), Corner(b, 1), Place(b, nil), Place(b, at(1, 1))) {
		if got != a || unsafe.StringData(got.M.Mag) == unsafe.StringData(mag) {
			t.Errorf("%v", got)
		}
	}
}

// P11.7
func TestHalved(t *testing.T) {
	r := rand.New(rand.NewSource(6))
	boxes(func(b api.Box) {
		for i := range min(len(b), 6) {
			low, high, _ := Halve(b, i)
			sum := new(big.Rat).Add(rat(Volume(low)), rat(Volume(high)))
			is(t, "the halves' volumes", num(sum), Volume(b))
			is(t, "the lower one within", Within(low, b), true)
			is(t, "the upper one within", Within(high, b), true)
			points := around(b)
			for range 4 {
				share := make(api.Point, len(b))
				for k := range share {
					share[k] = dy(int64(r.Intn(9)), -3)
				}
				points = append(points, Place(b, share), Place(low, share), Place(high, share))
			}
			for _, p := range points {
				is(t, "a point of it, or of a half", Has(low, p) || Has(high, p), Has(b, p))
			}
		}
	})
}

// P11.8
func TestEnds(t *testing.T) {
	boxes(func(b api.Box) {
		half := slices.Repeat(api.Point{dy(1, -1)}, len(b))
		is(t, "the middle in it", Has(b, Mid(b)), true)
		isPoint(t, "the middle's place", Place(b, half), Mid(b))
		for k := range 1 << min(len(b), 6) {
			share := make(api.Point, len(b))
			for i := range min(len(b), 6) {
				share[i] = of(int64(k >> i & 1))
			}
			is(t, "a corner in it", Has(b, Corner(b, k)), true)
			isPoint(t, "a corner's place", Place(b, share), Corner(b, k))
		}
		if Check(Form(b)) == api.ErrFlat {
			is(t, "without room", Volume(b), of(0))
		}
	})
}

// P11.9
func TestSmaller(t *testing.T) {
	r := rand.New(rand.NewSource(7))
	boxes(func(b api.Box) {
		if len(b) == 0 {
			return
		}
		wide := axes(b)[Widest(b)].width()
		part := b
		for range b {
			low, high, e := Halve(part, Widest(part))
			is(t, "the widest one", e, api.OK)
			part = []api.Box{low, high}[r.Intn(2)]
		}
		left := axes(part)[Widest(part)].width()
		if left.Add(left, left).Cmp(wide) > 0 {
			t.Errorf("%v: %v", b, part)
		}
	})
}

// R7: numbers of 4096 bytes, and Es from -32768 to 32768.
func TestGreat(t *testing.T) {
	r := rand.New(rand.NewSource(8))
	long := func() api.Num {
		b := make([]byte, 4096)
		r.Read(b)
		return api.Num{M: api.Int{Neg: r.Intn(2) == 0, Mag: string(b)}, E: r.Intn(9)}
	}
	for _, b := range []api.Box{
		build(4, func(i int) api.Span { return to(long(), long()) }),
		build(3, func(i int) api.Span {
			return to(up(strings.Repeat("\xff", 4096), -i), down(strings.Repeat("\xff", 4096), i))
		}),
		{to(dy(-3, 32768), dy(5, 32768)), to(dy(1, -32768), dy(1, -32767)), to(dy(-1, -32768), dy(7, 32768))},
		{to(dy(1, 32768), dy(1, -32768)), to(dy(1, 32768), dy(3, -32768))},
		{to(dy(1, -32768), dy(1, 32768)), to(dy(3, -32768), dy(1, 32768))},
	} {
		isBox(t, "Form", Form(b), boxOf(axes(b)))
		is(t, "Widest", Widest(b), widestOf(b))
		is(t, "Volume", Volume(b), num(volumeOf(b)))
		isPoint(t, "Mid", Mid(b), placeOf(b, slices.Repeat(api.Point{dy(1, -1)}, len(b))))
		isPoint(t, "Corner", Corner(b, 2), cornerOf(b, 2))
		share := api.Point{dy(3, -2), long(), dy(-1, 9)}
		isPoint(t, "Place", Place(b, share), placeOf(b, share))
		for i := range b {
			low, high := halvesOf(b, i)
			areHalves(t, "Halve", low, high)(Halve(b, i))
		}
		halvings := []int{0, 1, 3, 2, 3}
		isPart(t, "Part", partOf(b, halvings))(Part(b, halvings...))
		for _, p := range []api.Point{Mid(b), Corner(b, 1), Place(b, share)} {
			is(t, "Has", Has(b, p), hasOf(b, p))
		}
	}
}

// R1: beyond what is promised, a call comes to its end; what needs no reckoning is right there, too.
func TestFarEs(t *testing.T) {
	far := []int{math.MinInt, math.MinInt + 1, -1 << 62, -1 << 40, 0, 1 << 40, 1 << 62, math.MaxInt - 1, math.MaxInt}
	for _, e := range far {
		for _, f := range far {
			low, high := down("\x03", e), up("\x05", f)
			b := api.Box{to(low, high), to(high, low), to(up("\x00\x08", e), up("\x08", f)), to(up("", e), down("\x00", f))}
			is(t, "Check", Check(b), api.ErrFlat)
			is(t, "Check", Check(b[:1]), api.OK)
			isBox(t, "Form", Form(b)[:2], api.Box{to(low, high), to(low, high)})
			isPoint(t, "Corner", Corner(b, 2)[:2], api.Point{low, high})
			is(t, "Has", Has(b[:2], api.Point{low, high}), true)
			is(t, "Within", Within(b, b), true)
			Widest(b)
			Volume(b)
			Mid(b)
			Place(b, api.Point{low, high, up("\x01", e), up("\x01", f)})
			for i := range b {
				Halve(b, i)
			}
			Part(b, 0, 1, 2, 3, 4, 5, 6, 7, 0, 0, 1, 1)
		}
	}
}
