package digits

import (
	"math"
	"math/big"
	"math/rand"
	"strings"
	"testing"

	"ogee/api"
	"ogee/whole"
)

// ff and oo: so many bytes FF, 0.
func ff(n int) string { return strings.Repeat("\xff", n) }
func oo(n int) string { return strings.Repeat("\x00", n) }

// number and form: the library's numbers are what answers are held against.
func number(a api.Int) *big.Int {
	n := new(big.Int).SetBytes([]byte(a.Mag))
	if a.Neg {
		n.Neg(n)
	}
	return n
}

func form(n *big.Int) api.Int {
	return api.Int{Neg: n.Sign() < 0, Mag: string(n.Bytes())}
}

// raw is a number that is not in the one form.
func raw(a api.Int) api.Int {
	return api.Int{Neg: a.Neg || a.Mag == "", Mag: oo(len(a.Mag)%9+1) + a.Mag}
}

// samples are numbers around all the edges, of both signs: powers of ten, an int64's ends, parts that are all noughts or all nines, and what chance (always the same) makes.
func samples() []api.Int {
	var sizes []*big.Int
	for k := range 150 {
		ten := new(big.Int).Exp(big.NewInt(10), big.NewInt(int64(k)), nil)
		two := new(big.Int).Lsh(big.NewInt(1), uint(3*k+1))
		for d := int64(-1); d <= 1; d++ {
			sizes = append(sizes, new(big.Int).Add(ten, big.NewInt(d)), new(big.Int).Add(two, big.NewInt(d)))
		}
	}
	sizes = append(sizes, big.NewInt(math.MaxInt64-1), big.NewInt(math.MaxInt64), new(big.Int).SetUint64(1<<63+1), new(big.Int).SetUint64(math.MaxUint64))
	r := rand.New(rand.NewSource(1))
	for n := range 300 {
		b := make([]byte, n)
		r.Read(b)
		sizes = append(sizes, new(big.Int).SetBytes(b))
	}
	var l []api.Int
	for _, n := range sizes {
		l = append(l, form(n), form(new(big.Int).Neg(n)))
	}
	return l
}

// texts are the samples' ones.
func texts() []string {
	var l []string
	for _, a := range samples() {
		l = append(l, number(a).String())
	}
	return l
}

// P3.1
func TestPrint(t *testing.T) {
	for _, a := range samples() {
		if got, want := Print(a), number(a).String(); got != want {
			t.Errorf("Print: %s, not %s", got, want)
		}
	}
	for n, want := range map[int64]string{
		0: "0", 1: "1", -1: "-1", 9: "9", 10: "10", -10: "-10", 100: "100", 255: "255", -256: "-256", math.MaxInt64: "9223372036854775807", math.MinInt64: "-9223372036854775808",
	} {
		if got := Print(whole.Of(n)); got != want {
			t.Errorf("Print(%d): %s", n, got)
		}
	}
	ten := whole.Of(10)
	if got := Print(whole.Neg(whole.Pow(ten, 21))); got != "-1000000000000000000000" {
		t.Errorf("the chapter's: %s", got)
	}
	for k := range 400 {
		if got := Print(whole.Pow(ten, k)); got != "1"+strings.Repeat("0", k) {
			t.Errorf("10^%d: %s", k, got)
		}
	}
}

// P3.1: a - is no digit.
func TestLen(t *testing.T) {
	for _, a := range samples() {
		want := len(strings.TrimPrefix(number(a).String(), "-"))
		if Len(a) != want || Len(raw(a)) != want {
			t.Errorf("Len(%d): %d, %d", number(a), Len(a), Len(raw(a)))
		}
	}
	for n, want := range map[int64]int{0: 1, 1: 1, -1: 1, 9: 1, -9: 1, 10: 2, -10: 2, 99: 2, 100: 3, math.MaxInt64: 19, math.MinInt64: 19} {
		if got := Len(whole.Of(n)); got != want {
			t.Errorf("Len(%d): %d", n, got)
		}
	}
}

// R4, P3.1: a number that is not in the one form has the same text.
func TestRaw(t *testing.T) {
	for _, a := range samples() {
		if Print(raw(a)) != Print(a) {
			t.Errorf("%d: %s", number(a), Print(raw(a)))
		}
	}
	for _, a := range []api.Int{{Neg: true}, {Neg: true, Mag: oo(1)}, {Neg: true, Mag: oo(50)}, {Mag: oo(9)}} {
		if Print(a) != "0" || Len(a) != 1 {
			t.Errorf("%v %x: %s, %d", a.Neg, a.Mag, Print(a), Len(a))
		}
	}
}

// parsed holds what a number's text is parsed as against the library's number.
func parsed(t *testing.T, s string) {
	t.Helper()
	n, _ := new(big.Int).SetString(s, 10)
	if a, at, e := Parse(s); a != form(n) || at != 0 || e != api.OK {
		t.Errorf("Parse(%s): %d, %d, %d", s, number(a), at, e)
	}
}

// P3.2
func TestParse(t *testing.T) {
	for _, s := range texts() {
		parsed(t, s)
	}
	for s, n := range map[string]int64{
		"-12": -12, "0": 0, "1": 1, "-1": -1, "9": 9, "10": 10, "-100": -100, "256": 256, "9223372036854775807": math.MaxInt64, "-9223372036854775808": math.MinInt64, "1000000000000000000": 1e18, "-1000000000000000001": -1e18 - 1,
	} {
		if a, at, e := Parse(s); a != whole.Of(n) || at != 0 || e != api.OK {
			t.Errorf("Parse(%s): %d, %d, %d", s, number(a), at, e)
		}
	}
	for k := 1; k < 400; k++ {
		for _, digit := range []string{"1", "9"} {
			parsed(t, strings.Repeat(digit, k))
			parsed(t, "-"+digit+strings.Repeat("0", k-1))
			parsed(t, digit+strings.Repeat("0", k)+digit)
		}
	}
}

// refused holds a text that is no number's against the place at which it is spoilt.
func refused(t *testing.T, s string, want int) {
	t.Helper()
	if a, at, e := Parse(s); a != (api.Int{}) || at != want || e != api.ErrForm {
		t.Errorf("Parse(%q): %d, %d, %d; spoilt at %d", s, number(a), at, e, want)
	}
}

// P3.2
func TestParseSpoilt(t *testing.T) {
	for s, want := range map[string]int{
		"": 0, "-": 1, "-0": 1, "01": 1, "1a": 1, "+1": 0, // the chapter's
		"+": 0, "--1": 1, "1-": 1, "1-2": 1, "-1-": 2, "00": 1, "0-": 1, "0 ": 1, "-00": 1, "-01": 1, "-0x": 1, "0x1": 1, "0b1": 1,
		" 1": 0, "1 ": 1, "- 1": 1, "-a": 1, "a": 0, "a-": 0, "1.0": 1, "1e3": 1, "1_000": 1, "1,000": 1, "12\n": 2, "\n": 0, "/": 0, ":": 0, "1/": 1, "1:": 1, "\x00": 0, "1\x00": 1,
	} {
		refused(t, s, want)
	}
}

// P3.2: what is no digit though it looks like one, and bytes that are no rune's.
func TestParseRunes(t *testing.T) {
	for _, bad := range []string{"\u0661", "\uff11", "\u2212", "\ufeff", "\u00b2", "\U0001d7cf", "\ufffd", "\x80", "\xff", "\xc3", "\xe0\xa0", "\xf0\x9f\x98"} {
		for _, head := range []string{"", "-", "0", "7", "-7", "12345678901234567", "123456789012345678", "-1234567890123456789"} {
			refused(t, head+bad, len(head))
			refused(t, head+bad+"1", len(head))
		}
	}
}

// isText and goesOn say what the chapter says of a text, by way of the library's numbers.
func isText(s string) bool {
	n, ok := new(big.Int).SetString(s, 10)
	return ok && n.String() == s
}

func goesOn(s string) bool {
	return isText(s) || isText(s+"1")
}

// place is where the chapter says that a text is spoilt.
func place(s string) int {
	for at := range len(s) {
		if goesOn(s[:at]) && !goesOn(s[:at+1]) {
			return at
		}
	}
	return len(s)
}

// P3.2: each text of a few bytes is a number's or spoilt where the chapter says so.
func TestParseShort(t *testing.T) {
	all := []string{""}
	for range 5 {
		var more []string
		for _, s := range all {
			for _, c := range []string{"-", "+", "0", "1", "9", "a", " ", "\xff"} {
				more = append(more, s+c)
			}
		}
		for _, s := range all {
			if isText(s) {
				parsed(t, s)
			} else {
				refused(t, s, place(s))
			}
		}
		all = more
	}
}

// P3.2: each byte behind texts that can go on, or can't.
func TestParseBytes(t *testing.T) {
	for _, head := range []string{"", "-", "0", "5", "-5", "10", strings.Repeat("9", 17), strings.Repeat("9", 18), "-" + strings.Repeat("9", 36)} {
		for c := range 256 {
			s := head + string([]byte{byte(c)})
			if isText(s) {
				parsed(t, s)
				continue
			}
			refused(t, s, place(s))
			refused(t, s+"0", place(s+"0"))
		}
	}
}

// P3.2, R1: long texts, good ones and ones that are spoilt at any place.
func TestParseLong(t *testing.T) {
	long := strings.Repeat("1234567890", 1000)
	for _, k := range []int{1, 17, 18, 19, 35, 36, 37, 72, 73, 999, 9999, 10000} {
		parsed(t, long[:k])
		refused(t, long[:k]+"x", k)
		refused(t, "-"+long[:k]+"-"+long, k+1)
		refused(t, strings.Repeat("0", k+1), 1)
	}
	refused(t, strings.Repeat("9", 1<<22)+" ", 1<<22)
}

// P3.3
func TestThereAndBack(t *testing.T) {
	for _, a := range samples() {
		if b, at, e := Parse(Print(a)); b != a || at != 0 || e != api.OK {
			t.Errorf("%d: %d, %d, %d", number(a), number(b), at, e)
		}
		if b, _, e := Parse(Print(raw(a))); b != a || e != api.OK {
			t.Errorf("raw %d: %d, %d", number(a), number(b), e)
		}
	}
	for _, s := range texts() {
		if a, _, _ := Parse(s); Print(a) != s || Len(a) != len(strings.TrimPrefix(s, "-")) {
			t.Errorf("%s: %s", s, Print(a))
		}
	}
}

// P3.4
func TestDigitByDigit(t *testing.T) {
	ten := whole.Of(10)
	for _, s := range texts() {
		a, _, _ := Parse(s)
		for d := range int64(10) {
			more := s + string(rune('0'+d))
			if s == "0" {
				refused(t, more, 1)
				continue
			}
			digit := whole.Of(d)
			if a.Neg {
				digit = whole.Neg(digit)
			}
			if b, _, e := Parse(more); b != whole.Add(whole.Mul(a, ten), digit) || e != api.OK || Len(b) != Len(a)+1 {
				t.Errorf("%s: %d, %d", more, number(b), e)
			}
		}
	}
}

// P3.4
func TestDigitsOfProducts(t *testing.T) {
	l := samples()
	for i, a := range l {
		for j := range 40 {
			b := l[(i*7+j*37+3)%len(l)]
			if both, n := Len(a)+Len(b), Len(whole.Mul(a, b)); whole.Sign(a) != 0 && whole.Sign(b) != 0 && n != both && n != both-1 {
				t.Errorf("%d times %d: %d digits", number(a), number(b), n)
			}
		}
	}
}

// R7: numbers of 4096 bytes.
func TestGreat(t *testing.T) {
	r := rand.New(rand.NewSource(2))
	b := make([]byte, 4096)
	r.Read(b)
	for _, mag := range []string{ff(4096), "\x80" + oo(4095), "\x01" + oo(4095), string(b)} {
		for _, a := range []api.Int{{Mag: mag}, {Neg: true, Mag: mag}} {
			s := number(a).String()
			if Print(a) != s || Len(a) != len(strings.TrimPrefix(s, "-")) {
				t.Errorf("%v %x: %s", a.Neg, mag[:1], Print(a))
			}
			parsed(t, s)
		}
	}
}

// R1, R7: a number of far more digits comes to its end before patience does.
func TestFar(t *testing.T) {
	s := "-" + strings.Repeat("9876543210", 10000)
	a, _, e := Parse(s)
	if e != api.OK || Print(a) != s || Len(a) != len(s)-1 {
		t.Errorf("%d digits: %d, %d", len(s)-1, e, Len(a))
	}
}
