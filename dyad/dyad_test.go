package dyad

import (
	"math"
	"math/big"
	"math/rand"
	"slices"
	"strings"
	"testing"
	"unsafe"

	"ogee/api"
)

// ff and oo: so many bytes FF, 0.
func ff(n int) string { return strings.Repeat("\xff", n) }
func oo(n int) string { return strings.Repeat("\x00", n) }

// up and down: the number of that size above 0, below it, times 2^e.
func up(mag string, e int) api.Num   { return api.Num{M: api.Int{Mag: mag}, E: e} }
func down(mag string, e int) api.Num { return api.Num{M: api.Int{Neg: true, Mag: mag}, E: e} }

// dy: m times 2^e, m odd or 0.
func dy(m int64, e int) api.Num { return form(big.NewInt(m), e) }

// unit is how fine the scale is on which the library's whole numbers stand for the samples.
const unit = 300

// number and form: the library's numbers are what answers are held against. number tells a dyadic one on the scale of 2^-unit, form the one form of n times 2^e.
func number(a api.Num) *big.Int {
	n := new(big.Int).SetBytes([]byte(a.M.Mag))
	n.Lsh(n, uint(a.E+unit))
	if a.M.Neg {
		n.Neg(n)
	}
	return n
}

func form(n *big.Int, e int) api.Num {
	if n.Sign() == 0 {
		return api.Num{}
	}
	zeros := n.TrailingZeroBits()
	mag := new(big.Int).Rsh(new(big.Int).Abs(n), zeros)
	return api.Num{M: api.Int{Neg: n.Sign() < 0, Mag: string(mag.Bytes())}, E: e + int(zeros)}
}

// samples are numbers around all the edges, of both signs: one number at several Es, noughts with a sign or an E, bytes 0 ahead, noughts below, and what chance (always the same) makes.
func samples() []api.Num {
	sizes := []string{"", oo(2), "\x01", "\x00\x01", "\x02", "\x03", "\x04", "\x05\x00", oo(8) + "\x06", "\x80", "\xff", "\x01\x00", ff(8), "\x01" + oo(8), "\x80" + oo(7) + "\x01", ff(17) + oo(3)}
	es := []int{0, 1, -1, 2, -2, -3, 7, -8, 63, -64, -65, 200}
	r := rand.New(rand.NewSource(1))
	var l []api.Num
	for i, s := range sizes {
		for j := range 3 {
			e := es[(3*i+5*j)%len(es)]
			l = append(l, up(s, e), down(s, e))
		}
	}
	for range 12 {
		b := make([]byte, r.Intn(30))
		r.Read(b)
		l = append(l, up(oo(r.Intn(3))+string(b), r.Intn(60)-30), down(string(b), r.Intn(500)-250))
	}
	return l
}

// wants holds an answer against n times 2^e.
func wants(t *testing.T, what string, got api.Num, n *big.Int, e int) {
	t.Helper()
	if want := form(n, e); got != want {
		t.Errorf("%s: %v, not %v", what, got, want)
	}
}

// is holds an answer against a number.
func is(t *testing.T, what string, got, want api.Num) {
	t.Helper()
	if got != want {
		t.Errorf("%s: %v, not %v", what, got, want)
	}
}

// each goes through all pairs of samples.
func each(do func(a, b api.Num)) {
	l := samples()
	for _, a := range l {
		for _, b := range l {
			do(a, b)
		}
	}
}

// triples goes through many of three samples.
func triples(do func(a, b, c api.Num)) {
	l := samples()
	for i, a := range l {
		for j, b := range l {
			do(a, b, l[(i*7+j*11+3)%len(l)])
		}
	}
}

// The chapter's examples, row by row.
func TestExamples(t *testing.T) {
	is(t, "Make(12, -1)", Make(api.Int{Mag: "\x0c"}, -1), up("\x03", 1))
	is(t, "Make(0, 5)", Make(api.Int{}, 5), api.Num{})

	is(t, "Add(1/2, 1/4)", Add(dy(1, -1), dy(1, -2)), up("\x03", -2))
	is(t, "Mul(3/4, -2)", Mul(dy(3, -2), Of(-2)), down("\x03", -1))
	is(t, "Sub(1, 1)", Sub(Of(1), Of(1)), api.Num{})

	is(t, "Floor(-3/8, 1)", Floor(dy(-3, -3), 1), down("\x01", -1))
	is(t, "Ceil(-3/8, 1)", Ceil(dy(-3, -3), 1), api.Num{})
	is(t, "Floor(5, -2)", Floor(Of(5), -2), up("\x01", 2))

	if c := Cmp(up("\x02", -3), dy(1, -2)); c != 0 {
		t.Errorf("Cmp(2 times 2^-3, 1/4): %d", c)
	}
	is(t, "Shift(3, -2)", Shift(Of(3), -2), up("\x03", -2))
	is(t, "Pow(1/2, 3)", Pow(dy(1, -1), 3), up("\x01", -3))
}

// P4.1
func TestOf(t *testing.T) {
	for _, n := range []int64{0, 1, -1, 2, 3, -5, 6, 255, 256, -1 << 31, 1<<31 - 1, 1<<62 + 1, math.MaxInt64, -math.MaxInt64, math.MinInt64} {
		wants(t, "Of", Of(n), big.NewInt(n), 0)
	}
	is(t, "Of(0)", Of(0), api.Num{})
	is(t, "Of(-6)", Of(-6), down("\x03", 1))
	is(t, "Of the least", Of(math.MinInt64), down("\x01", 63))
}

// P4.1, R4
func TestMakeForm(t *testing.T) {
	for _, a := range samples() {
		wants(t, "Form", Form(a), number(a), -unit)
		wants(t, "Make", Make(a.M, a.E), number(a), -unit)
	}
	for _, none := range []api.Num{up("", 5), up(oo(3), -5), down("", 0), down(oo(1), 7), up("", math.MinInt), down("", math.MaxInt)} {
		is(t, "a nought's form", Form(none), api.Num{})
		is(t, "a nought made", Make(none.M, none.E), api.Num{})
	}
	is(t, "a form", Form(up("\x00\x30", -4)), up("\x03", 0))
	is(t, "a form", Form(down("\x01\x00\x00", -32768)), down("\x01", -32752))
	is(t, "made", Make(api.Int{Mag: "0"}, 0), up("\x03", 4))
	is(t, "at the least E", Form(up("\x04", math.MinInt)), up("\x01", math.MinInt+2))
}

// P4.2
func TestSignCmp(t *testing.T) {
	each(func(a, b api.Num) {
		if Sign(a) != number(a).Sign() || Cmp(a, b) != number(a).Cmp(number(b)) {
			t.Errorf("%v and %v: %d, %d", a, b, Sign(a), Cmp(a, b))
		}
	})
	for _, c := range []struct {
		a, b api.Num
		want int
	}{
		{up("\x02", 0), up("\x01", 1), 0},
		{up("\x01\x00", -8), Of(1), 0},
		{down("\x04", -2), Of(-1), 0},
		{down("", 9), up(oo(2), -9), 0},
		{up("\x03", 0), up("\x01", 1), 1},
		{up("\x03", 0), up("\x01", 2), -1},
		{down("\x03", 0), down("\x01", 1), -1},
		{down("\x03", 0), down("\x01", 2), 1},
		{up("\x80"+oo(7)+"\x01", -71), Of(1), 1},
		{up(ff(8), -64), Of(1), -1},
		{up("\x01", -32768), Of(0), 1},
		{down("\x01", 32768), up("\x01", -32768), -1},
		{Of(-1), Of(0), -1},
		{Of(0), Of(-1), 1},
	} {
		if got := Cmp(c.a, c.b); got != c.want || Cmp(c.b, c.a) != -c.want {
			t.Errorf("%v and %v: %d", c.a, c.b, got)
		}
	}
}

// P4.3
func TestNegAbs(t *testing.T) {
	for _, a := range samples() {
		wants(t, "Neg", Neg(a), new(big.Int).Neg(number(a)), -unit)
		wants(t, "Abs", Abs(a), new(big.Int).Abs(number(a)), -unit)
	}
	for _, none := range []api.Num{{}, down("", 0), down(oo(2), 3), up(oo(1), -3)} {
		is(t, "Neg of 0", Neg(none), api.Num{})
		is(t, "Abs of 0", Abs(none), api.Num{})
	}
	is(t, "Neg", Neg(down("\x00\x06", -1)), up("\x03", 0))
	is(t, "Abs", Abs(down("\x00\x06", -1)), up("\x03", 0))
	is(t, "Abs", Abs(up("\x06", -2)), up("\x03", -1))
}

// P4.3
func TestAddSub(t *testing.T) {
	each(func(a, b api.Num) {
		wants(t, "Add", Add(a, b), new(big.Int).Add(number(a), number(b)), -unit)
		wants(t, "Sub", Sub(a, b), new(big.Int).Sub(number(a), number(b)), -unit)
	})
	is(t, "Add of none", Add(), api.Num{})
	is(t, "Add of one", Add(down("\x00\x06", 0)), down("\x03", 1))
	is(t, "Add of a nought", Add(down(oo(1), 9)), api.Num{})
	is(t, "Add of noughts", Add(down("", 9), up(oo(2), -9), up("", 0)), api.Num{})
	is(t, "Sub of noughts", Sub(down("", 9), up(oo(2), -9)), api.Num{})
	is(t, "Sub of the same", Sub(up("\x02", 3), up("\x01", 4)), api.Num{})
	is(t, "Sub from 0", Sub(Of(0), dy(3, -5)), dy(-3, -5))
}

// P4.3: rows of many, of all lengths around what a call has room for.
func TestAddMany(t *testing.T) {
	sum := new(big.Int)
	l := samples()
	for i, a := range l {
		wants(t, "Add", Add(l[:i+1]...), sum.Add(sum, number(a)), -unit)
	}
	for n := range 40 {
		wants(t, "so many", Add(slices.Repeat([]api.Num{dy(3, -2)}, n)...), big.NewInt(int64(3*n)), -2)
		wants(t, "so many of both signs", Add(slices.Repeat([]api.Num{dy(3, -2), dy(-5, 1), {}}, n)...), big.NewInt(int64(-37*n)), -2)
	}
	wants(t, "many", Add(slices.Repeat([]api.Num{dy(1, -1), Of(-256), dy(255, 0)}, 50000)...), big.NewInt(-25000), 0)
}

// P4.4
func TestMul(t *testing.T) {
	each(func(a, b api.Num) {
		wants(t, "Mul", Mul(a, b), new(big.Int).Mul(number(a), number(b)), -2*unit)
	})
	product := big.NewInt(1)
	var row []api.Num
	for _, a := range samples() {
		wants(t, "Mul of one", Mul(a), number(a), -unit)
		if number(a).Sign() != 0 {
			row = append(row, a)
			wants(t, "Mul of many", Mul(row...), product.Mul(product, number(a)), -unit*len(row))
		}
	}
	is(t, "Mul of none", Mul(), Of(1))
	is(t, "Mul with 0", Mul(append(row, down(oo(1), 5))...), api.Num{})
	is(t, "Mul of 0", Mul(down(oo(1), 5), dy(3, 7), Of(1)), api.Num{})
	is(t, "Mul of halves", Mul(dy(1, -1), Of(2), down("\x02", 0)), Of(-2))
}

// P4.4
func TestPow(t *testing.T) {
	for _, a := range samples() {
		for n := range 12 {
			wants(t, "Pow", Pow(a, n), new(big.Int).Exp(number(a), big.NewInt(int64(n)), nil), -unit*n)
		}
		for _, n := range []int{0, -1, -2, math.MinInt} {
			is(t, "Pow of none", Pow(a, n), Of(1))
		}
	}
	is(t, "Pow of 0", Pow(down(oo(1), 4), 3), api.Num{})
	is(t, "Pow of 0", Pow(api.Num{}, 1), api.Num{})
	is(t, "Pow of 0", Pow(api.Num{}, 0), Of(1))
	is(t, "Pow", Pow(dy(-1, -1), 32767), dy(-1, -32767))
	is(t, "Pow", Pow(down("\x02", 0), 2), dy(1, 2))
}

// P4.4
func TestShift(t *testing.T) {
	for _, a := range samples() {
		for _, n := range []int{0, 1, -1, 2, 7, 8, -9, 64, -65, 1000, -1000, 32768, -32768} {
			wants(t, "Shift", Shift(a, n), number(a), n-unit)
		}
	}
	is(t, "Shift of 0", Shift(down(oo(2), 5), 7), api.Num{})
	is(t, "Shift of 0", Shift(api.Num{}, -7), api.Num{})
	is(t, "Shift", Shift(up("\x00\x0c", 1), -3), Of(3))
}

// onGrid answers the greatest multiple of 2^-p that is not above a, reckoned by the library; p is at most unit.
func onGrid(a *big.Int, p int) (*big.Int, int) {
	step := new(big.Int).Lsh(big.NewInt(1), uint(unit-p))
	n, _ := new(big.Int).DivMod(a, step, new(big.Int))
	return n, -p
}

// P4.5
func TestFloorCeil(t *testing.T) {
	for _, a := range samples() {
		for p := -270; p <= unit; p += 7 {
			n, e := onGrid(number(a), p)
			wants(t, "Floor", Floor(a, p), n, e)
			n, e = onGrid(new(big.Int).Neg(number(a)), p)
			wants(t, "Ceil", Ceil(a, p), n.Neg(n), e)
		}
	}
	for _, c := range []struct {
		a         api.Num
		p         int
		low, high api.Num
	}{
		{dy(3, -3), 1, Of(0), dy(1, -1)},
		{dy(-3, -3), 2, dy(-1, -1), dy(-1, -2)},
		{dy(-3, -3), 3, dy(-3, -3), dy(-3, -3)},
		{dy(-3, -3), 4, dy(-3, -3), dy(-3, -3)},
		{up("\x0c", -5), 3, dy(3, -3), dy(3, -3)},
		{Of(5), -2, Of(4), Of(8)},
		{Of(5), -3, Of(0), Of(8)},
		{Of(-5), -3, Of(-8), Of(0)},
		{Of(-8), -3, Of(-8), Of(-8)},
		{Of(7), 0, Of(7), Of(7)},
		{dy(1, -32768), 0, Of(0), Of(1)},
		{dy(-1, -32768), 32767, dy(-1, -32767), Of(0)},
		{dy(-1, -32768), 32768, dy(-1, -32768), dy(-1, -32768)},
		{Of(1), -32768, Of(0), dy(1, 32768)},
		{Of(0), 3, Of(0), Of(0)},
		{down(oo(2), -9), 3, Of(0), Of(0)},
		{down("", 9), -30, Of(0), Of(0)},
	} {
		is(t, "Floor at an edge", Floor(c.a, c.p), c.low)
		is(t, "Ceil at an edge", Ceil(c.a, c.p), c.high)
	}
}

// P4.6
func TestMinMax(t *testing.T) {
	l := samples()
	least, greatest := number(l[0]), number(l[0])
	for i, a := range l {
		if n := number(a); n.Cmp(least) < 0 {
			least = n
		} else if n.Cmp(greatest) > 0 {
			greatest = n
		}
		wants(t, "Min", Min(l[:i+1]...), least, -unit)
		wants(t, "Max", Max(l[:i+1]...), greatest, -unit)
		wants(t, "Min of one", Min(a), number(a), -unit)
		wants(t, "Max of one", Max(a), number(a), -unit)
	}
	is(t, "Min of none", Min(), api.Num{})
	is(t, "Max of none", Max(), api.Num{})
	is(t, "Min", Min(Of(3), dy(-1, -9), dy(-1, -8), Of(0)), dy(-1, -8))
	is(t, "Max", Max(Of(-3), dy(-1, -9), dy(-1, -8), Of(-1)), dy(-1, -9))
	is(t, "Min above 0", Min(Of(3), dy(5, -1), up("\x14", -3)), dy(5, -1))
	is(t, "Max below 0", Max(down("\x14", -3), Of(-3), dy(-5, -1)), dy(-5, -1))
	is(t, "Min of noughts", Min(down("", 4), up(oo(1), -4)), api.Num{})
}

// P4.7
func TestRing(t *testing.T) {
	triples(func(a, b, c api.Num) {
		if Add(a, b, c) != Add(c, b, a) || Add(a, b, c) != Add(b, Add(c, a)) || Mul(a, b, c) != Mul(c, b, a) || Mul(a, b, c) != Mul(b, Mul(c, a)) {
			t.Errorf("order: %v, %v, %v", a, b, c)
		}
		if Mul(a, Add(b, c)) != Add(Mul(a, b), Mul(a, c)) {
			t.Errorf("a product of a sum: %v, %v, %v", a, b, c)
		}
		if Sub(a, b) != Add(a, Neg(b)) || Sub(Add(a, b), b) != Form(a) {
			t.Errorf("taken off: %v, %v", a, b)
		}
	})
	for _, a := range samples() {
		half := Shift(a, -1)
		if half != Mul(a, dy(1, -1)) || Add(half, half) != Form(a) || Mul(half, Of(2)) != Form(a) || Shift(half, 1) != Form(a) {
			t.Errorf("half of %v: %v", a, half)
		}
	}
}

// P4.8
func TestOrder(t *testing.T) {
	triples(func(a, b, c api.Num) {
		order := Cmp(a, b)
		if Cmp(Add(a, c), Add(b, c)) != order || Cmp(Mul(a, c), Mul(b, c)) != order*Sign(c) || Cmp(b, a) != -order || Sign(Sub(a, b)) != order {
			t.Errorf("%v, %v, %v", a, b, c)
		}
		if (Form(a) == Form(b)) != (order == 0) {
			t.Errorf("the same by their forms, or not: %v, %v", a, b)
		}
		if mid := Shift(Add(a, b), -1); Cmp(a, mid) != order || Cmp(mid, b) != order {
			t.Errorf("between %v and %v: %v", a, b, mid)
		}
	})
}

// P4.9
func TestGrid(t *testing.T) {
	for _, a := range samples() {
		for p := -260; p < 280; p += 3 {
			low, high, step := Floor(a, p), Ceil(a, p), Shift(Of(1), -p)
			gap := Sub(high, low)
			if Cmp(low, a) > 0 || Cmp(a, high) > 0 || gap != step && gap != Of(0) {
				t.Errorf("%v on the grid of %d: %v to %v", a, p, low, high)
			}
			if x := Form(a); (gap == Of(0)) != (x == api.Num{} || x.E >= -p) {
				t.Errorf("%v on the grid of %d: a multiple, or not", a, p)
			}
		}
	}
}

// R3: a row that is handed in is neither changed, nor is the room behind its end used.
func TestRowStays(t *testing.T) {
	l := []api.Num{up("\x00\x02", 1), down("\x03", -1), down(oo(1), 9), Of(7), up("behind", 1)}
	kept := slices.Clone(l)
	is(t, "Add", Add(l[:4]...), dy(19, -1))
	is(t, "Mul", Mul(l[:2]...), Of(-6))
	is(t, "Min", Min(l[:4]...), dy(-3, -1))
	is(t, "Max", Max(l[:4]...), Of(7))
	if !slices.Equal(l, kept) {
		t.Errorf("%v", l)
	}
}

// What is answered is new memory, also where it is the number that was handed in.
func TestNewMemory(t *testing.T) {
	a := up(string([]byte("an odd number's bytes, as 's' is odd")), -5)
	a.M.Mag += "s"
	minus := down(a.M.Mag, a.E)
	none := Of(0)
	for i, b := range []api.Num{Make(a.M, a.E), Form(a), Neg(minus), Abs(a), Abs(minus), Add(a), Add(a, none), Add(none, a), Sub(a, none), Sub(none, minus), Mul(a), Mul(a, Of(1)), Mul(Of(1), a), Pow(a, 1), Shift(a, 0), Floor(a, 5), Floor(a, 9), Ceil(a, 5), Ceil(a, 9), Min(a), Max(a), Min(a, a), Max(minus, a)} {
		if b != a || unsafe.StringData(b.M.Mag) == unsafe.StringData(a.M.Mag) {
			t.Errorf("%d: %v", i, b)
		}
	}
	for i, b := range []api.Num{Neg(a), Form(minus), Add(minus), Sub(none, a), Mul(a, Of(-1)), Ceil(minus, 7), Floor(minus, 7), Min(a, minus)} {
		if b != minus || unsafe.StringData(b.M.Mag) == unsafe.StringData(a.M.Mag) {
			t.Errorf("below 0, %d: %v", i, b)
		}
	}
}

// R7: numbers of 4096 bytes, and Es from -32768 to 32768.
func TestGreat(t *testing.T) {
	r := rand.New(rand.NewSource(2))
	b := make([]byte, 4096)
	r.Read(b)
	b[0], b[4095] = b[0]|128, b[4095]|1
	for _, mag := range []string{ff(4096), "\x80" + oo(4094) + "\x01", string(b)} {
		n := new(big.Int).SetBytes([]byte(mag))
		high := new(big.Int).Lsh(n, 65536)
		a, c := up(mag, 32768), down(mag, -32768)
		wants(t, "Add", Add(a, c, a), new(big.Int).Sub(new(big.Int).Add(high, high), n), -32768)
		wants(t, "Sub", Sub(a, c), new(big.Int).Add(high, n), -32768)
		wants(t, "Mul", Mul(a, c), new(big.Int).Neg(new(big.Int).Mul(n, n)), 0)
		wants(t, "Pow", Pow(up(mag, -1000), 3), new(big.Int).Exp(n, big.NewInt(3), nil), -3000)
		if Cmp(a, c) != 1 || Cmp(c, a) != -1 || Cmp(up(mag, -32768), Of(1)) != -1 || Cmp(up(mag, -32767), Of(1)) != 1 || Cmp(a, Add(a, up("\x01", -32768))) != -1 {
			t.Error("Cmp")
		}
		if Floor(a, 32768) != a || Floor(c, 0) != Of(-1) || Ceil(c, 0) != Of(0) || Ceil(up(mag, -32768), -32768) != dy(1, 32768) {
			t.Error("Floor, Ceil")
		}
	}
	wants(t, "Make", Make(api.Int{Mag: "\x01" + oo(4095)}, -32768), big.NewInt(1), 32760-32768)
	row := make([]api.Num, 4096)
	for i := range row {
		row[i] = up("\x01", i-2048)
	}
	all := new(big.Int).Sub(new(big.Int).Lsh(big.NewInt(1), 4096), big.NewInt(1))
	wants(t, "a sum of all Es", Add(row...), all, -2048)
}

// R1: whatever E a number has, a call comes to its end; so far as the answer can be told, it is right.
func TestFarEs(t *testing.T) {
	ends := []int{math.MinInt, math.MinInt + 1, -1 << 62, -1 << 40, -1, 0, 1, 1 << 40, 1 << 62, math.MaxInt - 1, math.MaxInt}
	for _, e := range ends {
		for _, f := range ends {
			for _, a := range []api.Num{up("\x01", e), down("\x06", e), down(oo(1), e), up(ff(20), e)} {
				b := down("\x01\x00", f)
				for _, got := range []api.Num{Add(a, b, a), Sub(a, b), Mul(a, b, a), Floor(a, f), Ceil(a, f), Shift(a, f), Min(a, b), Max(b, a), Make(a.M, f), Neg(a), Abs(a)} {
					if got != Form(got) {
						t.Errorf("%v and %v: %v", a, b, got)
					}
				}
				is(t, "Sub of itself", Sub(a, a), api.Num{})
			}
			if x, y := up("\x01", e), up("\x01", f); (Cmp(x, y) < 0) != (e < f) || (Cmp(x, y) > 0) != (e > f) || Cmp(Neg(x), Neg(y)) != -Cmp(x, y) || Cmp(x, Neg(y)) != 1 || Cmp(api.Num{}, x) != -1 {
				t.Errorf("Cmp of 2^%d, 2^%d", e, f)
			}
		}
	}
}

// R1, P4.4, P4.5
func TestFarAnswers(t *testing.T) {
	for _, p := range []int{1 << 40, math.MaxInt} {
		is(t, "Floor on a fine grid", Floor(dy(-3, -3), p), dy(-3, -3))
		is(t, "Ceil on a fine grid", Ceil(dy(-3, 3), p), dy(-3, 3))
		is(t, "Floor on a coarse grid", Floor(Of(-5), -p), dy(-1, p))
		is(t, "Floor on a coarse grid", Floor(Of(5), -p), api.Num{})
		is(t, "Ceil on a coarse grid", Ceil(dy(5, -40), -p), dy(1, p))
		is(t, "Floor of a little", Floor(dy(-1, -p), 3), dy(-1, -3))
		is(t, "Ceil of a little", Ceil(dy(-1, -p), -3), api.Num{})
		is(t, "Pow of 2", Pow(Of(2), p), dy(1, p))
		is(t, "Pow of 1/2", Pow(dy(1, -1), p), dy(1, -p))
		is(t, "Pow of 1", Pow(up("\x02", -1), p), Of(1))
		is(t, "Pow of 0", Pow(api.Num{}, p), api.Num{})
		is(t, "Add of noughts", Add(down("", p), up("\x01", -p), up("", p)), up("\x01", -p))
	}
	is(t, "Floor on the coarsest grid", Floor(Of(5), math.MinInt), api.Num{})
	is(t, "Floor of the least", Floor(dy(1, math.MinInt), math.MinInt), api.Num{})
	is(t, "Add of the same E", Add(dy(1, math.MaxInt), dy(-1, math.MaxInt)), api.Num{})
	if low := Floor(Of(-5), math.MinInt); Cmp(low, Of(-5)) > 0 {
		t.Errorf("Floor on the coarsest grid: %v", low)
	}
}

// R1: where no int is an answer's E, or numbers are too far apart to be summed, nothing is promised: it is 0 then, and not a number that looks like one.
func TestBeyond(t *testing.T) {
	top, bottom := dy(3, math.MaxInt), dy(3, math.MinInt)
	for i, got := range []api.Num{
		Add(top, bottom), Add(top, Of(1)), Add(Of(1), bottom, Of(1)), Sub(top, bottom), Sub(Of(1), top), Add(dy(1, 1<<40), Of(1)),
		Mul(top, Of(2)), Mul(bottom, dy(1, -1)), Shift(top, 1), Shift(bottom, -1), Make(api.Int{Mag: "\x02"}, math.MaxInt),
		Pow(dy(1, 1<<40), 1<<40), Pow(bottom, 3), Pow(dy(-1, -1<<62), 3), Pow(Of(3), math.MaxInt),
	} {
		if got != (api.Num{}) {
			t.Errorf("%d: %v", i, got)
		}
	}
}
