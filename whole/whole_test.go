package whole

import (
	"math"
	"math/big"
	"math/rand"
	"slices"
	"strings"
	"testing"
	"unsafe"

	"ogee/api"
)

// ff and oo: so many bytes FF, 0.
func ff(n int) string { return strings.Repeat("\xff", n) }
func oo(n int) string { return strings.Repeat("\x00", n) }

// up and down: the number of that size above 0, below it.
func up(mag string) api.Int   { return api.Int{Mag: mag} }
func down(mag string) api.Int { return api.Int{Neg: true, Mag: mag} }

// number and form: the library's numbers are what answers are held against.
func number(a api.Int) *big.Int {
	n := new(big.Int).SetBytes([]byte(a.Mag))
	if a.Neg {
		n.Neg(n)
	}
	return n
}

func form(n *big.Int) api.Int {
	return api.Int{Neg: n.Sign() < 0, Mag: string(n.Bytes())}
}

// samples are numbers around all the edges, of both signs: bytes, an int64's ends, digits of 64 bits, and what chance (always the same) makes; some are not in the one form.
func samples() []api.Int {
	sizes := []string{"", "\x00", oo(9), "\x01", "\x00\x01", "\x02", "\x03", "\x05", oo(8) + "\x05", "\x80", "\xff", "\x01\x00", "\x7f" + ff(7), "\x80" + oo(7), oo(1) + "\x80" + oo(7), "\x80" + oo(6) + "\x01", ff(8), "\x01" + oo(8)}
	for _, n := range []int{1, 7, 9, 16, 17, 128, 129} {
		sizes = append(sizes, ff(n), "\x01"+oo(n), oo(3)+"\x80"+oo(n-1)+"\x01")
	}
	r := rand.New(rand.NewSource(1))
	for range 12 {
		b := make([]byte, r.Intn(40))
		r.Read(b)
		sizes = append(sizes, string(b), oo(r.Intn(10))+string(b)+oo(r.Intn(10)))
	}
	var l []api.Int
	for _, s := range sizes {
		l = append(l, up(s), down(s))
	}
	return l
}

// wants holds an answer against a number of the library's.
func wants(t *testing.T, what string, got api.Int, want *big.Int) {
	t.Helper()
	if got != form(want) {
		t.Errorf("%s: %v %x, not %x", what, got.Neg, got.Mag, want)
	}
}

// each goes through all pairs of samples.
func each(do func(a, b api.Int)) {
	for _, a := range samples() {
		for _, b := range samples() {
			do(a, b)
		}
	}
}

// int64s are ordinary ones, and those at the ends.
func int64s() []int64 {
	l := []int64{0, 1, 5, 127, 128, 255, 256, 1 << 31, 1 << 32, 1<<56 - 1, 1 << 56, math.MaxInt64 - 1, math.MaxInt64}
	for _, n := range slices.Clone(l) {
		l = append(l, -n, -n-1)
	}
	return l
}

// P2.1
func TestOf(t *testing.T) {
	for _, n := range int64s() {
		wants(t, "Of", Of(n), big.NewInt(n))
	}
	if Of(-5) != down("\x05") || Of(0) != (api.Int{}) || Of(math.MinInt64) != down("\x80"+oo(7)) {
		t.Error("Of at an edge")
	}
}

// P2.1, R4
func TestForm(t *testing.T) {
	for _, a := range samples() {
		wants(t, "Form", Form(a), number(a))
	}
	if Form(down("")) != (api.Int{}) || Form(down(oo(2))) != (api.Int{}) || Form(down("\x00\x05")) != down("\x05") || Form(up("0")) != up("0") {
		t.Error("Form at an edge")
	}
}

// P2.1
func TestSmall(t *testing.T) {
	for _, n := range int64s() {
		raw := Of(n)
		raw.Mag = oo(9) + raw.Mag
		for _, a := range []api.Int{Of(n), raw} {
			if got, ok := Small(a); got != n || !ok {
				t.Errorf("Small(%d): %d, %v", n, got, ok)
			}
		}
	}
	for _, a := range samples() {
		n := number(a)
		got, ok := Small(a)
		if ok != n.IsInt64() || ok && got != n.Int64() || !ok && got != 0 {
			t.Errorf("Small(%d): %d, %v", n, got, ok)
		}
	}
	for _, none := range []api.Int{up("\x80" + oo(7)), down("\x80" + oo(6) + "\x01"), up(ff(8)), down(ff(8)), up("\x01" + oo(8)), down("\x01" + oo(7) + "\x05")} {
		if got, ok := Small(none); got != 0 || ok {
			t.Errorf("Small of %v %x: %d, %v", none.Neg, none.Mag, got, ok)
		}
	}
}

// P2.2
func TestSignCmp(t *testing.T) {
	each(func(a, b api.Int) {
		if Sign(a) != number(a).Sign() || Cmp(a, b) != number(a).Cmp(number(b)) {
			t.Errorf("%d and %d: %d, %d", number(a), number(b), Sign(a), Cmp(a, b))
		}
	})
	if Cmp(Of(-1), Of(0)) != -1 || Cmp(down(oo(1)), up("")) != 0 || Sign(down(oo(3))) != 0 || Cmp(Of(-300), Of(-2)) != -1 || Cmp(down("\x00\x02"), Of(-300)) != 1 {
		t.Error("an edge")
	}
}

// P2.3
func TestNeg(t *testing.T) {
	for _, a := range samples() {
		wants(t, "Neg", Neg(a), new(big.Int).Neg(number(a)))
	}
	if Neg(Of(0)) != Of(0) || Neg(down(oo(2))) != Of(0) || Neg(down("\x00\x05")) != Of(5) {
		t.Error("an edge")
	}
}

// P2.3
func TestAddSub(t *testing.T) {
	each(func(a, b api.Int) {
		wants(t, "Add", Add(a, b), new(big.Int).Add(number(a), number(b)))
		wants(t, "Sub", Sub(a, b), new(big.Int).Sub(number(a), number(b)))
	})
	if Add(Of(5), Of(-7)) != Of(-2) || Add() != Of(0) || Add(down(oo(1))) != Of(0) || Add(down("\x00\x05")) != Of(-5) || Sub(Of(0), down("")) != Of(0) {
		t.Error("Add, Sub of little")
	}
}

// P2.3: rows of many, of one sign and of both, longer than the room that a short one has.
func TestAddMany(t *testing.T) {
	sum, above, below := new(big.Int), new(big.Int), new(big.Int)
	var ups, downs []api.Int
	for i, a := range samples() {
		wants(t, "Add", Add(samples()[:i+1]...), sum.Add(sum, number(a)))
		if number(a).Sign() < 0 {
			downs = append(downs, a)
			wants(t, "Add below 0", Add(downs...), below.Add(below, number(a)))
		} else {
			ups = append(ups, a)
			wants(t, "Add above 0", Add(ups...), above.Add(above, number(a)))
		}
	}
	wants(t, "many", Add(slices.Repeat([]api.Int{Of(255), Of(-256)}, 50000)...), big.NewInt(-50000))
}

// P2.4
func TestMul(t *testing.T) {
	product := big.NewInt(1)
	var row []api.Int
	each(func(a, b api.Int) {
		wants(t, "Mul", Mul(a, b), new(big.Int).Mul(number(a), number(b)))
	})
	for _, a := range samples() {
		wants(t, "Mul of one", Mul(a), number(a))
		if number(a).Sign() != 0 {
			row = append(row, a)
			wants(t, "Mul of many", Mul(row...), product.Mul(product, number(a)))
		}
	}
	if Mul() != Of(1) || Mul(Of(-3), Of(5), Of(-1)) != Of(15) || Mul(append(row, down(oo(1)))...) != Of(0) || Mul(down(oo(1)), Of(1)) != Of(0) {
		t.Error("Mul at an edge")
	}
}

// P2.4
func TestPow(t *testing.T) {
	for _, a := range samples() {
		for n := range 20 {
			wants(t, "Pow", Pow(a, n), new(big.Int).Exp(number(a), big.NewInt(int64(n)), nil))
		}
		for _, n := range []int{-1, -2, math.MinInt} {
			if Pow(a, n) != Of(1) {
				t.Errorf("Pow(%d, %d)", number(a), n)
			}
		}
	}
	wants(t, "Pow", Pow(Of(-3), 1001), new(big.Int).Exp(big.NewInt(-3), big.NewInt(1001), nil))
	wants(t, "Pow", Pow(Of(2), 32767), new(big.Int).Lsh(big.NewInt(1), 32767))
	if Pow(Of(-2), 3) != Of(-8) || Pow(Of(0), 0) != Of(1) || Pow(down(oo(1)), 3) != Of(0) || Pow(down("\x00\x02"), 2) != Of(4) {
		t.Error("Pow at an edge")
	}
}

// R1, P2.4: powers come to their end, however many they are.
func TestPowFar(t *testing.T) {
	for _, n := range []int{1 << 40, math.MaxInt - 1, math.MaxInt} {
		one := Of(1)
		if n%2 == 1 {
			one = Of(-1)
		}
		if Pow(Of(1), n) != Of(1) || Pow(Of(-1), n) != one || Pow(down("\x00\x01"), n) != one || Pow(down(oo(1)), n) != Of(0) {
			t.Errorf("%d times", n)
		}
		Pow(Of(2), n)
		Pow(down(ff(20)), n)
	}
}

// P2.5
func TestDiv(t *testing.T) {
	each(func(a, b api.Int) {
		quo, rem, ok := Div(a, b)
		if number(b).Sign() == 0 {
			if quo != (api.Int{}) || rem != (api.Int{}) || ok {
				t.Errorf("Div of %d by 0: %v, %v, %v", number(a), quo, rem, ok)
			}
			return
		}
		q, r := new(big.Int).DivMod(number(a), number(b), new(big.Int))
		if quo != form(q) || rem != form(r) || !ok {
			t.Errorf("Div(%d, %d): %d, %d, %v", number(a), number(b), number(quo), number(rem), ok)
		}
		if Add(Mul(b, quo), rem) != Form(a) || Sign(rem) < 0 || Cmp(rem, up(b.Mag)) >= 0 {
			t.Errorf("Div(%d, %d): not its parts", number(a), number(b))
		}
	})
	for _, c := range [][4]int64{{-7, 2, -4, 1}, {7, -2, -3, 1}, {7, 2, 3, 1}, {-7, -2, 4, 1}, {-6, 3, -2, 0}, {6, -3, -2, 0}, {-1, 5, -1, 4}, {-1, -5, 1, 4}, {1, -5, 0, 1}, {0, -5, 0, 0}} {
		if quo, rem, ok := Div(Of(c[0]), Of(c[1])); quo != Of(c[2]) || rem != Of(c[3]) || !ok {
			t.Errorf("Div(%d, %d): %d, %d, %v", c[0], c[1], number(quo), number(rem), ok)
		}
	}
}

// P2.6
func TestShift(t *testing.T) {
	for _, a := range samples() {
		for _, n := range []int{0, 1, 2, 7, 8, 9, 63, 64, 65, 72, 127, 128, 1000, 2000} {
			wants(t, "Shift", Shift(a, n), new(big.Int).Lsh(number(a), uint(n)))
			wants(t, "Shift back", Shift(a, -n), new(big.Int).Rsh(number(a), uint(n)))
		}
	}
	if Shift(Of(-5), 1) != Of(-10) || Shift(Of(-5), -1) != Of(-3) || Shift(Of(-4), -2) != Of(-1) || Shift(Of(-4), -3) != Of(-1) || Shift(down(oo(1)), -1) != Of(0) || Shift(down(""), 9) != Of(0) {
		t.Error("Shift at an edge")
	}
}

// R1, P2.6: nothing is too far to be shifted to an end.
func TestShiftFar(t *testing.T) {
	for _, n := range []int{-1 << 40, -math.MaxInt, math.MinInt} {
		if Shift(down(ff(20)), n) != Of(-1) || Shift(up(ff(20)), n) != Of(0) || Shift(down(oo(3)), n) != Of(0) || Shift(down("\x80"+oo(200)), n) != Of(-1) {
			t.Errorf("by %d", n)
		}
	}
	for _, n := range []int{1 << 40, math.MaxInt - 7, math.MaxInt} {
		if Shift(down(oo(3)), n) != Of(0) || Shift(Of(0), n) != Of(0) {
			t.Errorf("by %d", n)
		}
		Shift(Of(-1), n)
	}
}

// triples goes through many of three samples.
func triples(do func(a, b, c api.Int)) {
	l := samples()
	for i, a := range l {
		for j, b := range l {
			do(a, b, l[(i*7+j*11+3)%len(l)])
		}
	}
}

// P2.7
func TestRing(t *testing.T) {
	triples(func(a, b, c api.Int) {
		if Add(a, b, c) != Add(c, b, a) || Add(a, b, c) != Add(b, Add(c, a)) || Mul(a, b, c) != Mul(c, b, a) || Mul(a, b, c) != Mul(b, Mul(c, a)) {
			t.Errorf("order: %d, %d, %d", number(a), number(b), number(c))
		}
		if Mul(a, Add(b, c)) != Add(Mul(a, b), Mul(a, c)) {
			t.Errorf("a product of a sum: %d, %d, %d", number(a), number(b), number(c))
		}
		if Add(a, Neg(a)) != Of(0) || Add(Neg(a), a) != Of(0) || Sub(a, b) != Add(a, Neg(b)) {
			t.Errorf("turned round: %d, %d", number(a), number(b))
		}
	})
}

// P2.8
func TestOrder(t *testing.T) {
	triples(func(a, b, c api.Int) {
		if Cmp(Add(a, c), Add(b, c)) != Cmp(a, b) || Cmp(Mul(a, c), Mul(b, c)) != Cmp(a, b)*Sign(c) || Cmp(a, b) != -Cmp(b, a) || Cmp(a, b) != Sign(Sub(a, b)) {
			t.Errorf("%d, %d, %d", number(a), number(b), number(c))
		}
	})
}

// P2.9
func TestPowers(t *testing.T) {
	for _, a := range samples() {
		for n := range 7 {
			for m := range 7 {
				if Mul(Pow(a, n), Pow(a, m)) != Pow(a, n+m) {
					t.Errorf("%d: %d and %d times", number(a), n, m)
				}
			}
		}
	}
}

// R3: a row that is handed in is neither changed, nor is the room behind its end used.
func TestRowStays(t *testing.T) {
	l := []api.Int{up("\x00\x02"), down("\x03"), down(oo(1)), up("behind")}
	kept := slices.Clone(l)
	if Add(l[:2]...) != Of(-1) || Mul(l[:2]...) != Of(-6) || Add(l[:3]...) != Of(-1) || Mul(l[:3]...) != Of(0) || !slices.Equal(l, kept) {
		t.Errorf("%v", l)
	}
}

// What is answered is new memory, also where it is the number that was handed in.
func TestNewMemory(t *testing.T) {
	a := up(string([]byte("a number of more than a digit")))
	none := Of(0)
	_, rem, _ := Div(a, up(a.Mag+a.Mag))
	quo, _, _ := Div(a, Of(1))
	for i, b := range []api.Int{Form(a), Neg(Neg(a)), Add(a), Add(a, none), Add(none, a), Add(a, down("")), Sub(a, none), Neg(Sub(none, a)), Mul(a), Mul(a, Of(1)), Pow(a, 1), Shift(a, 0), quo, rem} {
		if b != a || unsafe.StringData(b.Mag) == unsafe.StringData(a.Mag) {
			t.Errorf("%d: %v %x", i, b.Neg, b.Mag)
		}
	}
	for i, b := range []api.Int{Neg(a), Sub(none, a), Add(down(a.Mag)), Mul(down(a.Mag)), Form(down(a.Mag))} {
		if b != down(a.Mag) || unsafe.StringData(b.Mag) == unsafe.StringData(a.Mag) {
			t.Errorf("below 0, %d: %v %x", i, b.Neg, b.Mag)
		}
	}
}

// R7: numbers of 4096 bytes, and shifts by 32768 bits and twice that.
func TestGreat(t *testing.T) {
	r := rand.New(rand.NewSource(2))
	b := make([]byte, 4096)
	r.Read(b)
	for _, a := range []api.Int{up(ff(4096)), down(ff(4096)), down("\x80" + oo(4095)), down(string(b))} {
		n, m := number(a), number(up(ff(4095)+"\xfe"))
		wants(t, "Add", Add(a, form(m)), new(big.Int).Add(n, m))
		wants(t, "Sub", Sub(a, form(m)), new(big.Int).Sub(n, m))
		wants(t, "Mul", Mul(a, form(m)), new(big.Int).Mul(n, m))
		wants(t, "Pow", Pow(a, 5), new(big.Int).Exp(n, big.NewInt(5), nil))
		quo, rem, _ := Div(Mul(a, a, a), form(m))
		q, rest := new(big.Int).DivMod(new(big.Int).Exp(n, big.NewInt(3), nil), m, new(big.Int))
		wants(t, "Div", quo, q)
		wants(t, "Div", rem, rest)
		for _, k := range []uint{32761, 32767, 32768, 65536} {
			wants(t, "Shift", Shift(a, int(k)), new(big.Int).Lsh(n, k))
			wants(t, "Shift back", Shift(a, -int(k)), new(big.Int).Rsh(n, k))
		}
	}
}
