package mono

import (
	"cmp"
	"math"
	"math/rand"
	"slices"
	"strings"
	"testing"
	"unsafe"

	"ogee/api"
)

// of is the product with these exponents, put together by the library.
func of(exps ...byte) string { return string(exps) }

// products are ones around the edges, of 0 to 5 variables and of many, and what chance (always the same) makes.
func products() []string {
	l := []string{
		"", of(0), of(1), of(2), of(63), of(64), of(100), of(126), of(127),
		of(0, 0), of(0, 1), of(1, 0), of(1, 1), of(2, 0), of(1, 3), of(0, 127), of(127, 0), of(127, 127), of(64, 63),
		of(0, 0, 0), of(2, 0, 1), of(127, 0, 1), of(1, 127, 0), of(0, 1, 127), of(48, 49, 50), of(127, 127, 127),
		strings.Repeat(of(0), 12), strings.Repeat(of(3), 12), strings.Repeat(of(127), 12), strings.Repeat(of(5, 0, 127), 100),
	}
	r := rand.New(rand.NewSource(1))
	for range 150 {
		b := make([]byte, r.Intn(6))
		for i := range b {
			b[i] = byte(r.Intn(1 << (1 + r.Intn(7))))
		}
		l = append(l, string(b))
	}
	return l
}

// spoilt are strings that are no products: with bytes above 127 of which some make a rune, of two to four bytes, and some make none.
func spoilt() []string {
	var l []string
	for _, bad := range []string{"\x80", "\xff", "\xc3", "\xf0", "\u0080", "\u00e9", "\u07ff", "\u0800", "\ufffd", "\uffff", "\U00010000", "\U0010ffff", "\xed\xa0\x80", "\xf0\x9f\x98", "\xc0\x80", "\xc1\xbf", "\xe0\xa0"} {
		for _, head := range []string{"", of(0), of(127), of(1, 2, 3)} {
			for _, tail := range []string{"", of(0), of(127), of(5, 1), "\x80"} {
				l = append(l, head+bad+tail)
			}
		}
	}
	return l
}

// pairs goes through all pairs of samples that are products of as many variables.
func pairs(do func(a, b string)) {
	l := products()
	for _, a := range l {
		for _, b := range l {
			if len(a) == len(b) {
				do(a, b)
			}
		}
	}
}

// isProduct and sums say what the chapter's words say, byte by byte.
func isProduct(m string) bool {
	return !slices.ContainsFunc([]byte(m), func(b byte) bool { return b > 127 })
}

func sums(a, b string, sign int) []int {
	l := make([]int, len(a))
	for i := range l {
		l[i] = int(a[i]) + sign*int(b[i])
	}
	return l
}

// made is the product with these exponents, and whether there is one.
func made(exps []int) (string, bool) {
	var m []byte
	for _, n := range exps {
		if n < 0 || n > 127 {
			return "", false
		}
		m = append(m, byte(n))
	}
	return string(m), true
}

// The checks hold an answer against what it should be.
func ofIs(t *testing.T, exps []int, want string, wrong api.Errno) {
	t.Helper()
	if m, e := Of(exps...); m != want || e != wrong {
		t.Errorf("Of(%v): %q, %d; not %q, %d", exps, m, e, want, wrong)
	}
}

func mulIs(t *testing.T, a, b, want string, wrong api.Errno) {
	t.Helper()
	if m, e := Mul(a, b); m != want || e != wrong {
		t.Errorf("Mul(%q, %q): %q, %d; not %q, %d", a, b, m, e, want, wrong)
	}
}

func divIs(t *testing.T, a, b, want string, is bool) {
	t.Helper()
	if m, ok := Div(a, b); m != want || ok != is {
		t.Errorf("Div(%q, %q): %q, %t; not %q, %t", a, b, m, ok, want, is)
	}
}

func allIs(t *testing.T, degs []int, want ...string) {
	t.Helper()
	if l := All(degs...); !slices.Equal(l, want) {
		t.Errorf("All(%v): %q, not %q", degs, l, want)
	}
}

// The chapter's examples, row by row.
func TestExamples(t *testing.T) {
	ofIs(t, []int{2, 0, 1}, of(2, 0, 1), api.OK)
	ofIs(t, []int{128}, "", api.ErrLimit)
	if d := Degree(of(2, 0, 1)); d != 3 {
		t.Errorf("Degree: %d", d)
	}

	mulIs(t, of(2, 0), of(1, 3), of(3, 3), api.OK)
	mulIs(t, of(100), of(28), "", api.ErrLimit)
	mulIs(t, of(1), of(1, 1), "", api.ErrArg)

	divIs(t, of(3, 3), of(1, 3), of(2, 0), true)
	divIs(t, of(1), of(2), "", false)

	allIs(t, []int{1, 1}, of(0, 0), of(0, 1), of(1, 0), of(1, 1))
	allIs(t, nil, "")
	allIs(t, []int{-1})
}

// mayAs holds whether a string is a product of so many variables against what it is, for all counts around its length.
func mayAs(t *testing.T, m string, is bool) {
	t.Helper()
	for _, vars := range []int{len(m), -len(m) - 1, len(m) - 1, len(m) + 1, len(m) + 256, ^len(m), len(m) - math.MaxInt, len(m) | math.MinInt, math.MaxInt} {
		if got := May(m, vars); got != (is && vars == len(m)) {
			t.Errorf("May(%q, %d): %t", m, vars, got)
		}
	}
	for vars := range 2*len(m) + 2 {
		if got := May(m, vars); got != (is && vars == len(m)) {
			t.Errorf("May(%q, %d): %t", m, vars, got)
		}
	}
}

// P7.1
func TestMay(t *testing.T) {
	for _, m := range products() {
		mayAs(t, m, true)
	}
	for _, m := range spoilt() {
		mayAs(t, m, false)
	}
	for c := range 256 {
		for _, head := range []string{"", of(0), of(127), of(7, 0)} {
			for _, tail := range []string{"", of(0), of(127), of(0, 7), "\x80", "\xbf"} {
				m := head + string([]byte{byte(c)}) + tail
				mayAs(t, m, isProduct(m))
			}
		}
	}
}

// P7.1
func TestOf(t *testing.T) {
	for n := -700; n <= 700; n++ {
		for _, exps := range [][]int{{n}, {n, 0}, {0, n}, {127, n, 127}, {n, n, n}, {1, 2, 3, 4, 5, 6, 7, 8, 9, 10, 11, 12, 13, n}} {
			if m, ok := made(exps); ok {
				ofIs(t, exps, m, api.OK)
			} else {
				ofIs(t, exps, "", api.ErrLimit)
			}
		}
	}
	for _, n := range []int{math.MinInt, math.MinInt + 1, -1 << 32, -1 << 16, 1 << 16, 1<<16 + 1, 1 << 31, 1 << 32, 1<<32 + 1, 1 << 62, math.MaxInt - 1, math.MaxInt} {
		ofIs(t, []int{n}, "", api.ErrLimit)
		ofIs(t, []int{5, n}, "", api.ErrLimit)
		ofIs(t, []int{n, 5}, "", api.ErrLimit)
	}
	ofIs(t, nil, "", api.OK)
	ofIs(t, []int{}, "", api.OK)
	ofIs(t, slices.Repeat([]int{0, 9, 127}, 1000), strings.Repeat(of(0, 9, 127), 1000), api.OK)
	ofIs(t, append(slices.Repeat([]int{9}, 1000), 128), "", api.ErrLimit)
}

// P7.1
func TestExpsDegree(t *testing.T) {
	for _, m := range products() {
		exps := Exps(m)
		if !slices.Equal(exps, sums(m, strings.Repeat(of(0), len(m)), 1)) {
			t.Errorf("Exps(%q): %v", m, exps)
		}
		ofIs(t, exps, m, api.OK)
		degree := 0
		for _, n := range exps {
			degree += n
		}
		if d := Degree(m); d != degree {
			t.Errorf("Degree(%q): %d", m, d)
		}
	}
	for _, m := range spoilt() {
		if exps, d := Exps(m), Degree(m); len(exps) != 0 || d != 0 {
			t.Errorf("%q: %v, %d", m, exps, d)
		}
	}
	if d := Degree(strings.Repeat(of(127), 1000)); d != 127000 {
		t.Errorf("a great degree: %d", d)
	}
}

// P7.1: each string of two bytes.
func TestTwoBytes(t *testing.T) {
	for c := range 1 << 16 {
		m := string([]byte{byte(c >> 8), byte(c)})
		want, degree := []int{c >> 8, c & 255}, c>>8+c&255
		if !isProduct(m) {
			want, degree = nil, 0
		}
		if exps, d := Exps(m), Degree(m); May(m, 2) != isProduct(m) || May(m, 1) || !slices.Equal(exps, want) || d != degree {
			t.Errorf("%q: %v, %d", m, exps, d)
		}
	}
}

// P7.2: the sums and differences of all exponents, alone and beside others.
func TestMulDiv(t *testing.T) {
	around := func(n int) []string {
		c := byte(n)
		return []string{of(c), of(c, 0), of(0, c), of(5, c, 127), of(c, c)}
	}
	for n := range 128 {
		for k := range 128 {
			less := around(k)
			for i, a := range around(n) {
				b := strings.ReplaceAll(less[i], of(127), of(0))
				if m, ok := made(sums(a, b, 1)); ok {
					mulIs(t, a, b, m, api.OK)
				} else {
					mulIs(t, a, b, "", api.ErrLimit)
				}
				m, ok := made(sums(a, b, -1))
				divIs(t, a, b, m, ok)
			}
		}
	}
	pairs(func(a, b string) {
		if m, ok := made(sums(a, b, 1)); ok {
			mulIs(t, a, b, m, api.OK)
		} else {
			mulIs(t, a, b, "", api.ErrLimit)
		}
		m, ok := made(sums(a, b, -1))
		divIs(t, a, b, m, ok)
	})
	mulIs(t, "", "", "", api.OK)
	divIs(t, "", "", "", true)
}

// P7.2: of many variables, one spoils it.
func TestMulDivMany(t *testing.T) {
	long := strings.Repeat(of(1, 64, 0), 2000)
	mulIs(t, long, strings.Repeat(of(2, 63, 0), 2000), strings.Repeat(of(3, 127, 0), 2000), api.OK)
	mulIs(t, long+of(100), long[:5998]+of(0, 0)+of(28), "", api.ErrLimit)
	divIs(t, long, strings.Repeat(of(1, 60, 0), 2000), strings.Repeat(of(0, 4, 0), 2000), true)
	divIs(t, long+of(5), long+of(6), "", false)
	mulIs(t, long, long+of(0), "", api.ErrArg)
	mulIs(t, long+"\x80", long+of(0), "", api.ErrArg)
}

// P7.2: strings that are no products, and products of unlike many variables; that goes ahead of an exponent that would be too great.
func TestMulDivWrong(t *testing.T) {
	l := products()
	for _, a := range l {
		for _, b := range l {
			if len(a) != len(b) {
				mulIs(t, a, b, "", api.ErrArg)
				divIs(t, a, b, "", false)
			}
		}
	}
	for _, bad := range spoilt() {
		for _, b := range []string{"", bad, strings.Repeat(of(0), len(bad)), strings.Repeat(of(127), len(bad)), strings.Repeat("\xff", len(bad)), of(127)} {
			mulIs(t, bad, b, "", api.ErrArg)
			mulIs(t, b, bad, "", api.ErrArg)
			divIs(t, bad, b, "", false)
			divIs(t, b, bad, "", false)
		}
	}
	mulIs(t, of(127, 0), of(127), "", api.ErrArg)
	mulIs(t, of(127), of(127, 0), "", api.ErrArg)
	mulIs(t, of(127)+"\x80", of(127, 0), "", api.ErrArg)
	mulIs(t, of(127, 0), of(127)+"\x80", "", api.ErrArg)
	divIs(t, "\x80", of(1), "", false)
	divIs(t, "\xff", "\x80", "", false)
}

// allHolds says of a list of all that it rises strictly, that each product is within the degrees, and that they are so many: so each one is in it, once.
func allHolds(t *testing.T, degs ...int) {
	t.Helper()
	count := 1
	for _, d := range degs {
		count *= d + 1
	}
	l := All(degs...)
	if len(l) != count {
		t.Errorf("All(%v): %d, not %d", degs, len(l), count)
	}
	for i, m := range l {
		if len(m) != len(degs) || i > 0 && l[i-1] >= m {
			t.Fatalf("All(%v): %q at %d", degs, m, i)
		}
		for j, d := range degs {
			if int(m[j]) > d {
				t.Fatalf("All(%v): %q at %d", degs, m, i)
			}
		}
	}
}

// P7.3, P7.6
func TestAll(t *testing.T) {
	allIs(t, []int{0}, of(0))
	allIs(t, []int{2}, of(0), of(1), of(2))
	allIs(t, []int{0, 0, 0}, of(0, 0, 0))
	allIs(t, []int{0, 2, 1}, of(0, 0, 0), of(0, 0, 1), of(0, 1, 0), of(0, 1, 1), of(0, 2, 0), of(0, 2, 1))
	allIs(t, []int{2, 0}, of(0, 0), of(1, 0), of(2, 0))
	allIs(t, []int{}, "")
	for d := range 128 {
		allHolds(t, d)
		allHolds(t, d, 2)
		allHolds(t, 1, 0, d)
	}
	r := rand.New(rand.NewSource(2))
	for range 300 {
		degs := make([]int, r.Intn(7))
		for i := range degs {
			degs[i] = r.Intn(5)
		}
		allHolds(t, degs...)
	}
	allHolds(t, slices.Repeat([]int{0}, 1000)...)
	allHolds(t, append(slices.Repeat([]int{0}, 200), 3, 0, 1)...)
}

// P7.3: numbers around the ends, in each place, also behind so many products that no number would matter.
func TestAllWrong(t *testing.T) {
	for _, n := range []int{math.MinInt, -1 << 32, -129, -128, -127, -2, -1, 128, 129, 255, 256, 257, 1<<16 - 1, 1 << 16, 1 << 31, 1<<32 - 1, 1 << 32, 1<<32 + 1, 1 << 62, math.MaxInt - 1, math.MaxInt} {
		for _, degs := range [][]int{{n}, {n, 0}, {0, n}, {1, n, 1}, {n, n}, {127, 127, 127, n}, {n, 127, 127, 127}, {-1, n}, {n, -1}, {0, 0, 0, n}} {
			allIs(t, degs)
		}
	}
	allIs(t, []int{127, -1, 127})
	allIs(t, []int{-128, -128})
}

// P7.3: lists around the limit, and counts so great that no int has them, or as one are small.
func TestAllLimit(t *testing.T) {
	ones := slices.Repeat([]int{1}, 16)
	allHolds(t, ones...)
	allHolds(t, 127, 127, 3)
	allHolds(t, 3, 0, 127, 127)
	allHolds(t, 127, 127, 2)
	allHolds(t, 15, 15, 15, 15)
	allHolds(t, 64, 15, 62)
	for _, degs := range [][]int{append(ones, 1), {127, 127, 4}, {4, 127, 127}, {15, 15, 15, 16}, {127, 127, 3, 1}, {1, 127, 127, 3}, {127, 127, 127}, {36, 36, 47}} {
		allIs(t, degs)
	}
	for n := 17; n < 200; n++ {
		allIs(t, slices.Repeat([]int{1}, n))
		allIs(t, slices.Repeat([]int{127}, n))
		allIs(t, slices.Repeat([]int{3, 6}, n))
		allIs(t, append(slices.Repeat([]int{0}, n), append(ones, 2)...))
	}
}

// P7.5
func TestThereAndBack(t *testing.T) {
	pairs(func(a, b string) {
		m, e := Mul(a, b)
		if other, _ := Mul(b, a); other != m {
			t.Errorf("Mul(%q, %q): %q, or %q", a, b, m, other)
		}
		if e == api.OK {
			divIs(t, m, b, a, true)
			divIs(t, m, a, b, true)
			if Degree(m) != Degree(a)+Degree(b) {
				t.Errorf("Degree of %q times %q: %d", a, b, Degree(m))
			}
		}
		if q, ok := Div(a, b); ok {
			mulIs(t, q, b, a, api.OK)
		}
	})
}

// P7.5: the order stays.
func TestOrderStays(t *testing.T) {
	l := All(3, 2, 2)
	l = append(l, of(0, 0, 120), of(0, 120, 0), of(120, 0, 0), of(100, 110, 120))
	for _, a := range l {
		for _, b := range l {
			for _, c := range l {
				x, e := Mul(a, c)
				y, f := Mul(b, c)
				if e == api.OK && f == api.OK && cmp.Compare(x, y) != cmp.Compare(a, b) {
					t.Errorf("%q and %q, by %q: %q, %q", a, b, c, x, y)
				}
			}
		}
	}
}

// P7.4, R3: a row that is handed in is neither changed, nor is the room behind its end used.
func TestRowStays(t *testing.T) {
	l := []int{2, 0, 1, 77, 88}
	was := slices.Clone(l)
	ofIs(t, l[:3], of(2, 0, 1), api.OK)
	if got := len(All(l[:3]...)); got != 6 {
		t.Errorf("All: %d", got)
	}
	if !slices.Equal(l, was) {
		t.Errorf("%v, not %v", l, was)
	}
}

// inside says whether a string lies in another one's memory.
func inside(s, all string) bool {
	at, begin := uintptr(unsafe.Pointer(unsafe.StringData(s))), uintptr(unsafe.Pointer(unsafe.StringData(all)))
	return s != "" && at >= begin && at < begin+uintptr(len(all))
}

// P7.4: new memory, also where the answer is what was handed in.
func TestNewMemory(t *testing.T) {
	for _, a := range []string{of(3), of(1, 2), strings.Repeat(of(1, 2, 3), 4), strings.Repeat(of(5), 50)} {
		a = strings.Clone(a)
		one := strings.Repeat(of(0), len(a))
		x, _ := Mul(a, one)
		y, _ := Mul(one, a)
		z, _ := Div(a, one)
		for i, m := range []string{x, y, z} {
			if m != a || inside(m, a) {
				t.Errorf("%d: %q", i, m)
			}
		}
		if z, _ = Div(a, a); z != one || inside(z, one) {
			t.Errorf("%q by itself: %q", a, z)
		}
	}
	l, k := All(1, 1), All(1, 1)
	l[0], l[1] = "mine", "mine"
	if k[0] != of(0, 0) || k[1] != of(0, 1) || All(1, 1)[0] != of(0, 0) {
		t.Errorf("%q, %q", l, k)
	}
	m := of(1, 2)
	exps := Exps(m)
	exps[0] = 9
	if m != of(1, 2) || Exps(m)[0] != 1 {
		t.Errorf("%q", m)
	}
}

// R1: whatever bytes it is, each call comes to its end; so it does beyond the size of which something is promised.
func TestFar(t *testing.T) {
	r := rand.New(rand.NewSource(3))
	for range 20000 {
		a, b := make([]byte, r.Intn(5)), make([]byte, r.Intn(5))
		r.Read(a)
		r.Read(b)
		s, u := string(a), string(b)
		m, e := Mul(s, u)
		q, ok := Div(s, u)
		alike := isProduct(s) && isProduct(u) && len(s) == len(u)
		if (e == api.ErrArg) == alike || e != api.OK && m != "" || ok && !alike || !ok && q != "" {
			t.Errorf("%q and %q: %q, %d, %q, %t", s, u, m, e, q, ok)
		}
	}
	long := strings.Repeat(of(127), 1<<20)
	if !May(long, 1<<20) || May(long+"\x80", 1<<20+1) || Degree(long) != 127<<20 || len(Exps(long)) != 1<<20 {
		t.Error("a long product")
	}
	allIs(t, append(make([]int, 1<<20), slices.Repeat([]int{1}, 16)...))
}
