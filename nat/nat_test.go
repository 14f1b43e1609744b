package nat

import (
	"math"
	"math/big"
	"math/rand"
	"strings"
	"testing"
	"unsafe"
)

// ff and oo: so many bytes FF, 0.
func ff(n int) string { return strings.Repeat("\xff", n) }
func oo(n int) string { return strings.Repeat("\x00", n) }

// number and form: the library's numbers are what answers are held against.
func number(a string) *big.Int { return new(big.Int).SetBytes([]byte(a)) }
func form(n *big.Int) string   { return string(n.Bytes()) }

// short names a number in a fault's text.
func short(a string) string { return number(a).Text(16) }

// samples are numbers around all the edges: bytes, digits of 64 bits, the room of a call, and what chance (always the same) makes; some with bytes 0 ahead.
func samples() []string {
	l := []string{"", "\x00", oo(9), "\x01", "\x00\x01", "\x02", "\x7f", "\x80", "\xff", "\x01\x00", oo(8) + "\x05"}
	for _, n := range []int{1, 7, 8, 9, 15, 16, 17, 24, 127, 128, 129, 255, 256, 257} {
		l = append(l, ff(n), "\x01"+oo(n), "\x80"+oo(n-1), ff(n-1)+"\xfe", "\x7f"+ff(n-1), oo(3)+ff(n), "\x01"+oo(n-1)+"\x01")
	}
	r := rand.New(rand.NewSource(1))
	for range 40 {
		b := make([]byte, r.Intn(60))
		r.Read(b)
		l = append(l, string(b), oo(r.Intn(10))+string(b)+oo(r.Intn(10)))
	}
	return l
}

// wants holds an answer against a number of the library's.
func wants(t *testing.T, what string, got string, want *big.Int) {
	t.Helper()
	if got != form(want) {
		t.Errorf("%s: %x, not %x", what, got, form(want))
	}
}

// P1.1
func TestOf(t *testing.T) {
	for n, want := range map[uint64]string{
		0: "", 1: "\x01", 255: "\xff", 256: "\x01\x00", 258: "\x01\x02", 1<<56 - 1: ff(7), 1 << 56: "\x01" + oo(7), math.MaxUint64: ff(8),
	} {
		if got := Of(n); got != want {
			t.Errorf("Of(%d): %x", n, got)
		}
	}
	for i := range 64 {
		n := uint64(0x9e3779b97f4a7c15) >> i
		wants(t, "Of", Of(n), new(big.Int).SetUint64(n))
	}
}

// P1.1
func TestTrim(t *testing.T) {
	for a, want := range map[string]string{
		"": "", "\x00": "", oo(100): "", "\x05": "\x05", "\x00\x05": "\x05", oo(9) + "\x01\x00": "\x01\x00", "0": "0", "\x00\x80\xff": "\x80\xff",
	} {
		if got := Trim(a); got != want {
			t.Errorf("Trim(%x): %x", a, got)
		}
	}
}

// P1.2
func TestCmp(t *testing.T) {
	for _, a := range samples() {
		for _, b := range samples() {
			if got := Cmp(a, b); got != number(a).Cmp(number(b)) {
				t.Errorf("Cmp(%x, %x): %d", a, b, got)
			}
		}
	}
	if Cmp("\x00\x05", "\x05") != 0 || Cmp("", oo(3)) != 0 || Cmp("\x02", "\x01\x00") != -1 || Cmp("\x01\x00", "\x00\xff") != 1 {
		t.Error("bytes 0 ahead count")
	}
}

// P1.2
func TestLenZeros(t *testing.T) {
	for _, a := range samples() {
		if n := number(a); Len(a) != n.BitLen() || Zeros(a) != int(n.TrailingZeroBits()) {
			t.Errorf("%x: Len %d, Zeros %d", a, Len(a), Zeros(a))
		}
	}
	if Len("\x06\x00") != 11 || Zeros("\x06\x00") != 9 || Len("") != 0 || Zeros("") != 0 || Len(oo(2)) != 0 || Zeros(oo(2)) != 0 {
		t.Error("the chapter's examples")
	}
}

// P1.3
func TestAdd(t *testing.T) {
	if Add() != "" || Add("") != "" || Add(oo(3)) != "" || Add("\x00\x07") != "\x07" || Add(oo(2), "", "\x00\x01") != "\x01" || Add("\xff", "\x01") != "\x01\x00" {
		t.Error("Add of few")
	}
	sum := new(big.Int)
	for i := range samples() {
		sum.Add(sum, number(samples()[i]))
		wants(t, "Add of many", Add(samples()[:i+1]...), sum)
	}
	for _, a := range samples() {
		for _, b := range samples() {
			wants(t, "Add", Add(a, b), new(big.Int).Add(number(a), number(b)))
		}
	}
}

// P1.3
func TestSub(t *testing.T) {
	for _, a := range samples() {
		for _, b := range samples() {
			got, ok := Sub(a, b)
			want := new(big.Int).Sub(number(a), number(b))
			if ok != (want.Sign() >= 0) || !ok && got != "" {
				t.Errorf("Sub(%s, %s): %x, %v", short(a), short(b), got, ok)
			}
			if ok {
				wants(t, "Sub", got, want)
			}
		}
	}
	for _, c := range []struct {
		a, b, want string
		ok         bool
	}{{"", "", "", true}, {"\x01\x00", "\x01", "\xff", true}, {"\x01", "\x02", "", false}, {"\x00\x01", "\x02", "", false}, {"\x01", "\x00\x00\x01", "", true}, {"", "\x01", "", false}} {
		if got, ok := Sub(c.a, c.b); got != c.want || ok != c.ok {
			t.Errorf("Sub(%x, %x): %x, %v", c.a, c.b, got, ok)
		}
	}
}

// P1.4
func TestMul(t *testing.T) {
	for _, a := range samples() {
		for _, b := range samples() {
			wants(t, "Mul", Mul(a, b), new(big.Int).Mul(number(a), number(b)))
		}
	}
	if Mul("\xff", "\xff") != "\xfe\x01" || Mul("", "\x05") != "" || Mul("\x05", oo(2)) != "" || Mul("\x00\x01", "\x00\x07") != "\x07" {
		t.Error("Mul of little")
	}
}

// divided holds a division against the library's.
func divided(t *testing.T, a, b string) {
	t.Helper()
	quo, rem, ok := Div(a, b)
	if number(b).Sign() == 0 {
		if quo != "" || rem != "" || ok {
			t.Errorf("Div(%x, %x): %x, %x, %v", a, b, quo, rem, ok)
		}
		return
	}
	q, r := new(big.Int).QuoRem(number(a), number(b), new(big.Int))
	if quo != form(q) || rem != form(r) || !ok {
		t.Errorf("Div(%s, %s): %s, %s, %v", short(a), short(b), short(quo), short(rem), ok)
	}
}

// P1.4
func TestDiv(t *testing.T) {
	for _, a := range samples() {
		for _, b := range samples() {
			divided(t, a, b)
		}
	}
	if quo, rem, ok := Div("\x01\x01", "\x10"); quo != "\x10" || rem != "\x01" || !ok {
		t.Errorf("the chapter's: %x, %x, %v", quo, rem, ok)
	}
	for _, none := range []string{"", "\x00", oo(20)} {
		if quo, rem, ok := Div("\x05", none); quo != "" || rem != "" || ok {
			t.Errorf("by 0: %x, %x, %v", quo, rem, ok)
		}
	}
	if quo, rem, ok := Div("\x00\x01", "\x00\x02"); quo != "" || rem != "\x01" || !ok {
		t.Errorf("below: %x, %x, %v", quo, rem, ok)
	}
}

// P1.4: digits at which a guess by the highest ones is one or two too great.
func TestDivGuesses(t *testing.T) {
	edges := []string{oo(8), oo(7) + "\x01", "\x7f" + ff(7), "\x80" + oo(7), "\x80" + oo(6) + "\x01", ff(7) + "\xfe", ff(8)}
	texts := []string{""}
	for range 3 {
		var more []string
		for _, s := range texts {
			for _, e := range edges {
				more = append(more, s+e)
			}
		}
		texts = more
	}
	for _, b := range texts {
		for i, a := range texts {
			divided(t, a+texts[len(texts)-1-i], b)
			divided(t, a, b)
		}
	}
}

// P1.5
func TestShifts(t *testing.T) {
	for _, a := range samples() {
		for _, n := range []int{0, 1, 7, 8, 9, 63, 64, 65, 127, 128, 500, 1000, 1024, 2000} {
			wants(t, "Shl", Shl(a, n), new(big.Int).Lsh(number(a), uint(n)))
			wants(t, "Shr", Shr(a, n), new(big.Int).Rsh(number(a), uint(n)))
		}
		for _, n := range []int{-1, -8, -64, math.MinInt} {
			wants(t, "Shl below 0", Shl(a, n), number(a))
			wants(t, "Shr below 0", Shr(a, n), number(a))
		}
	}
	if Shl("\x03", 9) != "\x06\x00" || Shr("\x06\x00", 9) != "\x03" || Shr("\x01", 1) != "" {
		t.Error("the chapter's examples")
	}
}

// R1: nothing is too far to be shifted to an end.
func TestFarShifts(t *testing.T) {
	for _, n := range []int{1 << 40, 1 << 62, math.MaxInt - 7, math.MaxInt} {
		if Shl("", n) != "" || Shl(oo(5), n) != "" || Shr("", n) != "" || Shr(ff(20), n) != "" {
			t.Errorf("by %d", n)
		}
		Shl("\x01", n)
		Shl(ff(20), n)
	}
}

// P1.6
func TestRing(t *testing.T) {
	l := samples()
	for i, a := range l {
		b, c := l[(i*7+3)%len(l)], l[(i*11+5)%len(l)]
		if Add(a, b) != Add(b, a) || Mul(a, b) != Mul(b, a) {
			t.Errorf("order: %x, %x", a, b)
		}
		if Add(a, b, c) != Add(c, a, b) || Add(Add(a, b), c) != Add(a, Add(b, c)) || Mul(Mul(a, b), c) != Mul(a, Mul(b, c)) {
			t.Errorf("order: %x, %x, %x", a, b, c)
		}
		if Mul(a, Add(b, c)) != Add(Mul(a, b), Mul(a, c)) {
			t.Errorf("a product of a sum: %x, %x, %x", a, b, c)
		}
		if d, ok := Sub(Add(a, b), b); d != Trim(a) || !ok {
			t.Errorf("added and taken off: %x, %x", a, b)
		}
	}
}

// P1.7
func TestParts(t *testing.T) {
	for _, a := range samples() {
		for _, b := range samples() {
			quo, rem, ok := Div(a, b)
			if ok && (Add(Mul(b, quo), rem) != Trim(a) || Cmp(rem, b) >= 0) {
				t.Errorf("%x by %x: %x, %x", a, b, quo, rem)
			}
		}
	}
}

// P1.8
func TestBits(t *testing.T) {
	for _, a := range samples() {
		for _, b := range samples() {
			if both := Len(a) + Len(b); Len(a) > 0 && Len(b) > 0 && Len(Mul(a, b)) != both && Len(Mul(a, b)) != both-1 {
				t.Errorf("%x times %x", a, b)
			}
		}
		for n := range 140 {
			if Shr(Shl(a, n), n) != Trim(a) || Len(a) > 0 && (Len(Shl(a, n)) != Len(a)+n || Zeros(Shl(a, n)) != Zeros(a)+n) {
				t.Errorf("%x up and down by %d", a, n)
			}
		}
	}
}

// R3: the row of what is added is neither changed, nor is the room behind its end used.
func TestRowStays(t *testing.T) {
	l := []string{"\x00\x01", "\xff", "behind"}
	if Add(l[:2]...) != "\x01\x00" || l[0] != "\x00\x01" || l[1] != "\xff" || l[2] != "behind" {
		t.Errorf("%x", l)
	}
}

// What is answered is new memory, also where it is the number that was handed in.
func TestNewMemory(t *testing.T) {
	a := string([]byte("a number of more than a digit"))
	rest, _ := Sub(a, "")
	_, rem, _ := Div(a, a+a)
	for i, b := range []string{Trim(a), Shl(a, -1), Shr(a, -1), Shl(a, 0), Shr(a, 0), Add(a), Mul(a, "\x01"), rest, rem} {
		if b != a || unsafe.StringData(b) == unsafe.StringData(a) {
			t.Errorf("%d: %x", i, b)
		}
	}
}

// R7: numbers of 4096 bytes, and shifts by 32768 bits and twice that.
func TestGreat(t *testing.T) {
	r := rand.New(rand.NewSource(2))
	b := make([]byte, 4096)
	r.Read(b)
	for _, a := range []string{ff(4096), "\x80" + oo(4095), string(b)} {
		n := number(a)
		wants(t, "Mul", Mul(a, a), new(big.Int).Mul(n, n))
		wants(t, "Add", Add(a, a, ff(4096)), new(big.Int).Add(new(big.Int).Add(n, n), number(ff(4096))))
		divided(t, Mul(a, ff(4096)), a)
		divided(t, a+a, a[:2047])
		divided(t, a+a, "\x0d\xe0\xb6\xb3\xa7\x64\x00\x00")
		for _, k := range []int{32767, 32768, 65536} {
			wants(t, "Shl", Shl(a, k), new(big.Int).Lsh(n, uint(k)))
			wants(t, "Shr", Shr(a+a, k), new(big.Int).Rsh(number(a+a), uint(k)))
		}
	}
	wants(t, "many", Add(strings.Split(strings.Repeat("\xff,", 100000), ",")...), big.NewInt(25500000))
}
