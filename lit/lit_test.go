package lit

import (
	"math"
	"math/big"
	"math/rand"
	"slices"
	"strconv"
	"strings"
	"testing"
	"unsafe"

	"ogee/api"
	"ogee/dyad"
	"ogee/whole"
)

// ff and oo: so many bytes FF, 0.
func ff(n int) string { return strings.Repeat("\xff", n) }
func oo(n int) string { return strings.Repeat("\x00", n) }

// up and down: the number of that size above 0, below it, times 2^e, as it is written.
func up(mag string, e int) api.Num   { return api.Num{M: api.Int{Mag: mag}, E: e} }
func down(mag string, e int) api.Num { return api.Num{M: api.Int{Neg: true, Mag: mag}, E: e} }

// dy: m times 2^e, in the one form; of: n.
func dy(m int64, e int) api.Num { return form(big.NewInt(m), e) }
func of(n int64) api.Num        { return dy(n, 0) }

// form is the one form of n times 2^e, reckoned by the library.
func form(n *big.Int, e int) api.Num {
	if n.Sign() == 0 {
		return api.Num{}
	}
	zeros := n.TrailingZeroBits()
	mag := new(big.Int).Rsh(new(big.Int).Abs(n), zeros)
	return api.Num{M: api.Int{Neg: n.Sign() < 0, Mag: string(mag.Bytes())}, E: e + int(zeros)}
}

// size is an M as the library's number.
func size(a api.Num) *big.Int {
	n := new(big.Int).SetBytes([]byte(a.M.Mag))
	if a.M.Neg {
		n.Neg(n)
	}
	return n
}

// own is a number's own text, put together by the library.
func own(a api.Num) string {
	a = form(size(a), a.E)
	if a.E == 0 {
		return size(a).String()
	}
	return size(a).String() + "p" + strconv.Itoa(a.E)
}

// answer is what parsing answers.
type answer struct {
	a  api.Num
	at int
	e  api.Errno
}

func parsed(s string) answer {
	a, at, e := Parse(s)
	return answer{a, at, e}
}

// isWhole and goesOn say what digits' chapter says of a text, by way of the library's numbers.
func isWhole(s string) bool {
	n, ok := new(big.Int).SetString(s, 10)
	return ok && n.String() == s
}

func goesOn(s string) bool { return isWhole(s) || isWhole(s+"1") }

// spoilt is where digits' chapter says that a text is spoilt, or -1.
func spoilt(s string) int {
	if isWhole(s) {
		return -1
	}
	for at := range len(s) {
		if goesOn(s[:at]) && !goesOn(s[:at+1]) {
			return at
		}
	}
	return len(s)
}

// expected is what the chapter says that a text is parsed as.
func expected(s string) answer {
	end := strings.IndexAny(s, "p/")
	if end < 0 {
		end = len(s)
	}
	if at := spoilt(s[:end]); at >= 0 {
		return answer{at: at, e: api.ErrForm}
	}
	m, _ := new(big.Int).SetString(s[:end], 10)
	if end == len(s) {
		return answer{a: form(m, 0)}
	}
	if at := spoilt(s[end+1:]); at >= 0 {
		return answer{at: end + 1 + at, e: api.ErrForm}
	}
	n, _ := new(big.Int).SetString(s[end+1:], 10)
	switch {
	case s[end] == '/' && (n.Sign() <= 0 || n.BitLen() != int(n.TrailingZeroBits())+1):
		return answer{e: api.ErrArg}
	case s[end] == '/':
		return answer{a: form(m, 1-n.BitLen())}
	case n.CmpAbs(big.NewInt(api.MaxPower)) > 0:
		return answer{e: api.ErrLimit}
	}
	return answer{a: form(m, int(n.Int64()))}
}

// is holds what a text is parsed as against what it should be.
func is(t *testing.T, s string, want answer) {
	t.Helper()
	if got := parsed(s); got != want {
		t.Errorf("Parse(%.60q): %v, not %v", s, got, want)
	}
}

// splits holds what a row is split as against what it should be.
func splits(t *testing.T, s string, want []api.Num, place int, wrong api.Errno) {
	t.Helper()
	if l, at, e := Split(s); !slices.Equal(l, want) || at != place || e != wrong {
		t.Errorf("Split(%.60q): %v, %d, %d; not %v, %d, %d", s, l, at, e, want, place, wrong)
	}
}

// numbers are ones around the edges, of both signs: one number at several Es, noughts with a sign or an E, bytes 0 ahead, noughts below, the Es at their ends, and what chance (always the same) makes.
func numbers() []api.Num {
	l := []api.Num{
		{}, down("", 0), up(oo(2), 9), down(oo(1), -9), up("", math.MaxInt), of(1), of(-1), up("\x02", -1), down("\x00\x04", -2), up("\x0c", 0), down("\x0c", -3), of(3), of(-3), dy(1, -1), dy(-1, -1), dy(3, -3), dy(-3, -3), dy(5, 7),
		up("\x00\x50", -4), up("\x01"+oo(8), -70), down(ff(9), -72), up(ff(17)+oo(3), -20), down("\x80"+oo(7)+"\x01", -3), up("\x80", -7), up("\x80", -8), up("\x80", -6), up("1", 0), up("p", 49),
		dy(1, 32768), dy(-1, 32768), dy(1, -32768), dy(-9, -32768), dy(7, 32767), up("\x02", 32767), up("\x02", -32768), dy(1, 9), dy(1, 10), dy(1, -10), dy(1, 100),
	}
	r := rand.New(rand.NewSource(1))
	for range 300 {
		b := make([]byte, r.Intn(60))
		r.Read(b)
		l = append(l, up(oo(r.Intn(3))+string(b), r.Intn(60)-90), down(string(b), r.Intn(60000)-30000), down(string(b)+oo(r.Intn(4)), -r.Intn(16)))
	}
	return l
}

// The chapter's examples, row by row.
func TestExamples(t *testing.T) {
	for want, a := range map[string]api.Num{"3p-2": dy(3, -2), "-5": of(-5), "3p2": of(12), "0": of(0)} {
		if got := Print(a); got != want {
			t.Errorf("Print: %s, not %s", got, want)
		}
	}
	for s, a := range map[string]api.Num{"3/4": dy(3, -2), "-6p-3": dy(-3, -2), "0p9": of(0)} {
		is(t, s, answer{a: a})
	}
	for s, at := range map[string]int{"": 0, "1p": 2, "1/": 2, "1p2p3": 3, "x": 0, "-0": 1} {
		is(t, s, answer{at: at, e: api.ErrForm})
	}
	for s, e := range map[string]api.Errno{"1/3": api.ErrArg, "1/-2": api.ErrArg, "1p32769": api.ErrLimit} {
		is(t, s, answer{e: e})
	}
	if got := Row(of(1), dy(1, -1)); got != "1 1p-1" {
		t.Errorf("Row: %s", got)
	}
	splits(t, "1 1p-1", []api.Num{of(1), dy(1, -1)}, 0, api.OK)
	splits(t, "1  2", nil, 2, api.ErrForm)
}

// P6.1, R4
func TestPrint(t *testing.T) {
	for _, a := range numbers() {
		if got, want := Print(a), own(a); got != want {
			t.Errorf("Print(%v): %s, not %s", a, got, want)
		}
	}
	for want, a := range map[string]api.Num{
		"0": down(oo(3), -7), "1": up("\x00\x10", -4), "-1p1": down("\x02", 0), "1p-1": up("\x02", -2), "255": up("\xff", 0), "1p8": up("\x01\x00", 0), "-255p-8": down("\xff", -8), "5p10": up("\x50", 6), "1p32768": dy(1, 32768), "-1p-32768": dy(-1, -32768),
	} {
		if got := Print(a); got != want {
			t.Errorf("Print(%v): %s, not %s", a, got, want)
		}
	}
}

// P6.1: a whole number's text alone, and with each of the two signs behind it.
func TestParse(t *testing.T) {
	for s, a := range map[string]api.Num{
		"0": of(0), "7": of(7), "-12": of(-12), "12": dy(3, 2), "1p0": of(1), "3p2": of(12), "12p-2": of(3), "-12p-3": dy(-3, -1), "0p0": of(0), "0p-32768": of(0), "-1p1": of(-2), "1/1": of(1), "-7/1": of(-7), "6/2": of(3), "6/4": dy(3, -1), "6/8": dy(3, -2), "0/8": of(0), "-8/16": dy(-1, -1), "1/256": dy(1, -8),
		"18446744073709551616": dy(1, 64), "1/18446744073709551616": dy(1, -64), "1/9223372036854775808": dy(1, -63), "18446744073709551617/2": up("\x01"+oo(7)+"\x01", -1), "1p32768": dy(1, 32768), "1p-32768": dy(1, -32768), "-3p32767": dy(-3, 32767),
	} {
		is(t, s, answer{a: a})
		is(t, s, expected(s))
	}
	for _, a := range numbers() {
		m := size(a).String()
		for e := -40; e < 40; e++ {
			is(t, m+"p"+strconv.Itoa(e), answer{a: form(size(a), e)})
		}
		is(t, m, answer{a: form(size(a), 0)})
	}
}

// P6.1: where a text is spoilt. Ahead of that nothing else is an error.
func TestParseSpoilt(t *testing.T) {
	for s, at := range map[string]int{
		"-": 1, "p": 0, "/": 0, "p1": 0, "/1": 0, "-p1": 1, "-/2": 1, "-0p1": 1, "-0/2": 1, "01p1": 1, "00/2": 1, "1p-": 3, "1p-0": 3, "1p+1": 2, "1p01": 3, "1/-": 3, "1/-0": 3, "1/02": 3, "1/-02": 3, "1/+2": 2, "1pp": 2, "1//2": 2, "1p/": 2, "1/p": 2, "1/2/2": 3, "1/2p3": 3, "1p2/2": 3, "10p20p": 5,
		" 1": 0, "1 ": 1, " ": 0, "1 p2": 1, "1p 2": 2, "1p2 ": 3, "1 2": 1, "1/2 ": 3, "xp2": 0, "1P2": 1, "1.5": 1, "1e2": 1, "1p1.5": 3, "1p0x1": 3, "1\\2": 1, "x/3": 0, "1/3x": 3, "1p32769x": 7, "x/0": 0, "01/0": 1, "1/00": 3, "1p99999999999999999999-": 22, "1p032769": 3, "1/3p1": 3, "\n": 0, "1\n": 1, "1p2\n": 3, "1/2\x00": 3, "\x00p1": 0,
	} {
		is(t, s, answer{at: at, e: api.ErrForm})
		is(t, s, expected(s))
	}
}

// P6.1: runes that look like a sign or a digit, and bytes that are no rune's.
func TestParseRunes(t *testing.T) {
	for _, bad := range []string{"\u0440", "\uff50", "\u2044", "\u2215", "\uff0f", "\u0661", "\u2212", "\u00a0", "\u3000", "\ufeff", "\u00bd", "\ufffd", "\x80", "\xff", "\xc3", "\xf0", "\xe0\xa0", "\xf0\x9f\x98"} {
		for _, head := range []string{"", "-", "0", "7", "-70", "7p", "7p-", "7p0", "7p3", "7/", "7/2", "7/3", "7p32769"} {
			for _, tail := range []string{"", "1", "p", "p1", "/2", " 2"} {
				is(t, head+bad+tail, answer{at: len(head), e: api.ErrForm})
			}
		}
	}
	for head := range map[string]int{"": 0, "-": 0, "5": 0, "0": 0, "-5p": 0, "5p-": 0, "5p1": 0, "5/": 0, "5/1": 0, "5/-": 0} {
		for c := range 256 {
			for _, tail := range []string{"", "2", "0", "p"} {
				s := head + string([]byte{byte(c)}) + tail
				is(t, s, expected(s))
			}
		}
	}
}

// P6.1: a divisor that is no power of two, and none that is one.
func TestParseDivisor(t *testing.T) {
	for _, m := range []string{"1", "-1", "0", "12", "-3"} {
		for n := int64(-70); n <= 300; n++ {
			s := m + "/" + strconv.FormatInt(n, 10)
			is(t, s, expected(s))
		}
		for k := range 300 {
			two := new(big.Int).Lsh(big.NewInt(1), uint(k))
			for d := int64(-1); d <= 1; d++ {
				s := m + "/" + new(big.Int).Add(two, big.NewInt(d)).String()
				is(t, s, expected(s))
			}
			is(t, m+"/-"+two.String(), answer{e: api.ErrArg})
			is(t, m+"/"+new(big.Int).Mul(two, big.NewInt(3)).String(), answer{e: api.ErrArg})
		}
	}
	two := new(big.Int).Lsh(big.NewInt(1), 32768)
	is(t, "-3/"+two.String(), answer{a: dy(-3, -32768)})
	is(t, "1/"+two.Add(two, big.NewInt(2)).String(), answer{e: api.ErrArg})
}

// P6.1: exponents around the limit, and far beyond it; a divisor has none.
func TestParseLimit(t *testing.T) {
	for _, m := range []string{"1", "-6", "0"} {
		for d := -2; d <= 2; d++ {
			for _, e := range []int{api.MaxPower + d, -api.MaxPower + d} {
				s := m + "p" + strconv.Itoa(e)
				is(t, s, expected(s))
			}
		}
		for _, e := range []string{"65536", "-65536", "4294967296", "4294967297", "-4294967295", "9223372036854775807", "-9223372036854775808", "9223372036854775808", "-9223372036854775809", "18446744073709551616", "18446744073709551617", "-18446744073709551615", "1" + strings.Repeat("0", 4000)} {
			is(t, m+"p"+e, answer{e: api.ErrLimit})
		}
	}
	is(t, "32769p32768", answer{a: dy(32769, 32768)})
	is(t, "1p32769", answer{e: api.ErrLimit})
	is(t, "2p32768", answer{a: dy(1, 32769)})
	is(t, "1/"+new(big.Int).Lsh(big.NewInt(1), 40000).String(), answer{a: dy(1, -40000)})
}

// short goes through all texts of at most so many of those bytes.
func short(bytes string, most int, do func(s string)) {
	var longer func(s string)
	longer = func(s string) {
		do(s)
		if len(s) == most {
			return
		}
		for i := range len(bytes) {
			longer(s + bytes[i:i+1])
		}
	}
	longer("")
}

// P6.1: each text of a few bytes.
func TestParseShort(t *testing.T) {
	short("-0126p/ x", 5, func(s string) { is(t, s, expected(s)) })
}

// P6.2: each row of a few bytes is what its texts are, one by one.
func TestSplitShort(t *testing.T) {
	short("-03p/ x", 6, func(s string) {
		if s == "" {
			return
		}
		var want []api.Num
		begin := 0
		for _, text := range strings.Split(s, " ") {
			x := expected(text)
			if x.e != api.OK {
				splits(t, s, nil, begin+x.at, x.e)
				return
			}
			want = append(want, x.a)
			begin += len(text) + 1
		}
		splits(t, s, want, 0, api.OK)
	})
}

// P6.2
func TestRow(t *testing.T) {
	many := numbers()
	for n := range 30 {
		l := many[n*3 : n*4+n/7]
		var want []string
		for _, a := range l {
			want = append(want, own(a))
		}
		if got := Row(l...); got != strings.Join(want, " ") {
			t.Errorf("Row(%v): %s", l, got)
		}
	}
	if Row() != "" || Row(nil...) != "" || Row([]api.Num{}...) != "" {
		t.Errorf("an empty row: %q", Row())
	}
	if got := Row(of(0), of(0), up("\x02", 1), down("", 3), of(-1)); got != "0 0 1p2 0 -1" {
		t.Errorf("Row: %s", got)
	}
}

// P6.2: the first text's error, whichever it is, at the place where the text begins, and farther, if it is spoilt.
func TestSplit(t *testing.T) {
	splits(t, "", nil, 0, api.OK)
	splits(t, "0", []api.Num{of(0)}, 0, api.OK)
	splits(t, "-6p-3 3/4 12 0p9 7", []api.Num{dy(-3, -2), dy(3, -2), of(12), of(0), of(7)}, 0, api.OK)
	for s, at := range map[string]int{
		" ": 0, "  ": 0, " 1": 0, "1 ": 2, "1 2 ": 4, "1   2": 2, "1 2  3": 4, "12p-1  3": 6, "x": 0, "1 x": 2, "1 -": 3, "1 -0": 3, "1 01": 3, "12 3p": 5, "12 3/": 5, "12 3/4 1p2p3": 10, "1\t2": 1, "1,2": 1, "1\n": 1, "1 2\n": 3, "1\u00a02": 1, "1 \xff 1/3": 2, "1 x 1p32769": 2, "x 1/3": 0,
	} {
		splits(t, s, nil, at, api.ErrForm)
	}
	for s, at := range map[string]int{"1/3": 0, "1 1/3": 2, "10 1p3 5/0": 7, "1/3 x": 0, "1 1/-1 x": 2, "1/3 1p32769": 0, "1 2/6  ": 2} {
		splits(t, s, nil, at, api.ErrArg)
	}
	for s, at := range map[string]int{"1p32769": 0, "1 1p-32769": 2, "1/2 0p99999999999999999999": 4, "1p32769 x": 0, "12 1p40000 1/3": 3, "1p32769 ": 0} {
		splits(t, s, nil, at, api.ErrLimit)
	}
}

// P6.4
func TestThereAndBack(t *testing.T) {
	for _, a := range numbers() {
		is(t, Print(a), answer{a: form(size(a), a.E)})
	}
	short("-1246p/", 5, func(s string) {
		a, _, e := Parse(s)
		if e != api.OK {
			return
		}
		if Print(a) != own(a) || parsed(Print(a)) != (answer{a: a}) {
			t.Errorf("%s: %s", s, Print(a))
		}
	})
	for e := -api.MaxPower; e <= api.MaxPower; e += 511 {
		for _, m := range []int64{1, -1, 3, -255} {
			is(t, Print(dy(m, e)), answer{a: dy(m, e)})
		}
	}
}

// P6.5
func TestRowsBack(t *testing.T) {
	many := numbers()
	for n := 1; n < 40; n++ {
		l := many[n*2 : n*3]
		var want []api.Num
		for _, a := range l {
			want = append(want, form(size(a), a.E))
		}
		splits(t, Row(l...), want, 0, api.OK)
	}
	splits(t, Row(of(0)), []api.Num{{}}, 0, api.OK)
}

// P6.6
func TestPowers(t *testing.T) {
	for i, a := range numbers() {
		m := api.Num{M: whole.Form(a.M)}
		e := (i*97)%400 - 200
		is(t, size(a).String()+"p"+strconv.Itoa(e), answer{a: dyad.Shift(m, e)})
		k := i % 250 * 3
		two := new(big.Int).Lsh(big.NewInt(1), uint(k))
		is(t, size(a).String()+"/"+two.String(), answer{a: dyad.Shift(m, -k)})
	}
}

// P6.3, R3: the row stays, and so does the room behind its end.
func TestRowStays(t *testing.T) {
	l := []api.Num{up("\x00\x50", -4), down("", 3), up("\x02", 1), of(9), of(10)}
	was := slices.Clone(l)
	if got := Row(l[:2]...); got != "5 0" {
		t.Errorf("Row: %s", got)
	}
	Row(l...)
	if !slices.Equal(l, was) {
		t.Errorf("%v, not %v", l, was)
	}
}

// inside says whether a text lies in another one's memory.
func inside(s, all string) bool {
	at, begin := uintptr(unsafe.Pointer(unsafe.StringData(s))), uintptr(unsafe.Pointer(unsafe.StringData(all)))
	return s != "" && at >= begin && at < begin+uintptr(len(all))
}

// P6.3: new memory, of each answer and of each number in it.
func TestNewMemory(t *testing.T) {
	long := strings.Repeat("1234567890", 20)
	for _, s := range []string{long, long + "p3", long + "/4", "1"} {
		if a, _, _ := Parse(s); inside(a.M.Mag, s) || inside(Print(a), a.M.Mag) {
			t.Errorf("%s: %v", s, a)
		}
	}
	a := up("123456789012345678901", 5)
	if inside(Print(a), a.M.Mag) || inside(Row(a), a.M.Mag) {
		t.Errorf("%v", a)
	}
	if x, y := Row(a), Row(a); inside(x, y) {
		t.Errorf("%s, twice", x)
	}
	s := Row(a, a)
	l, _, _ := Split(s)
	k, _, _ := Split(s)
	if inside(l[0].M.Mag, l[1].M.Mag) || inside(l[0].M.Mag, s) || inside(l[0].M.Mag, k[0].M.Mag) || &l[0] == &k[0] {
		t.Errorf("%v", l)
	}
}

// R7: numbers of 4096 bytes, and Es from -32768 to 32768.
func TestGreat(t *testing.T) {
	r := rand.New(rand.NewSource(2))
	b := make([]byte, 4096)
	r.Read(b)
	b[0], b[4095] = b[0]|128, b[4095]|1
	var l []api.Num
	for _, e := range []int{-32768, -1, 0, 1, 32768} {
		for _, mag := range []string{ff(4096), "\x80" + oo(4094) + "\x01", string(b)} {
			l = append(l, up(mag, e), down(mag, e))
		}
	}
	for _, a := range l {
		if Print(a) != own(a) {
			t.Errorf("%x: %.40s", a.M.Mag[:2], Print(a))
		}
		is(t, Print(a), answer{a: a})
	}
	splits(t, Row(l...), l, 0, api.OK)
	splits(t, Row(l...)+" x", nil, len(Row(l...))+1, api.ErrForm)
}

// R1: numbers beyond what is promised, and long texts, come to their end.
func TestFar(t *testing.T) {
	for _, e := range []int{math.MinInt, math.MinInt + 1, math.MaxInt - 1, math.MaxInt} {
		for _, mag := range []string{"", oo(3), "\x01", "\x02", "\x50", "\x01" + oo(9)} {
			Print(up(mag, e))
			Print(down(mag, e))
			Row(up(mag, e), of(1), down(mag, e))
		}
		if got := Print(dy(1, e)); got != "1p"+strconv.Itoa(e) {
			t.Errorf("%d: %s", e, got)
		}
		if got := Print(up(oo(3), e)); got != "0" {
			t.Errorf("%d: %s", e, got)
		}
	}
	long := strings.Repeat("9", 1<<20)
	for s, at := range map[string]int{long + "x": len(long), long + " ": len(long), "1p" + long + "x": len(long) + 2, "1/" + long + "p": len(long) + 2} {
		is(t, s, answer{at: at, e: api.ErrForm})
	}
	splits(t, strings.Repeat(" ", 1<<20), nil, 0, api.ErrForm)
	l, _, e := Split(strings.Repeat("1/2 ", 1<<18) + "0")
	if len(l) != 1<<18+1 || e != api.OK || l[1<<18-1] != dy(1, -1) {
		t.Errorf("%d numbers, %d", len(l), e)
	}
}
