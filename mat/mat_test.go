package mat

import (
	"fmt"
	"math"
	"math/big"
	"math/bits"
	"math/rand"
	"slices"
	"strings"
	"testing"
	"unsafe"

	"ogee/api"
)

// up and down: the number of that size above 0, below it, times 2^e. They needn't be in the one form.
func up(mag string, e int) api.Num   { return api.Num{M: api.Int{Mag: mag}, E: e} }
func down(mag string, e int) api.Num { return api.Num{M: api.Int{Neg: true, Mag: mag}, E: e} }

// dy: m times 2^e, in the one form.
func dy(m int64, e int) api.Num {
	if m == 0 {
		return api.Num{}
	}
	n := new(big.Int).Abs(big.NewInt(m))
	zeros := n.TrailingZeroBits()
	return api.Num{M: api.Int{Neg: m < 0, Mag: string(n.Rsh(n, zeros).Bytes())}, E: e + int(zeros)}
}

// rat and num: the library's fractions are what answers are held against. num tells the one form.
func rat(a api.Num) *big.Rat {
	n := new(big.Int).SetBytes([]byte(a.M.Mag))
	if a.M.Neg {
		n.Neg(n)
	}
	if a.E >= 0 {
		return new(big.Rat).SetInt(n.Lsh(n, uint(a.E)))
	}
	return new(big.Rat).SetFrac(n, new(big.Int).Lsh(big.NewInt(1), uint(-a.E)))
}

func num(r *big.Rat) api.Num {
	if r.Sign() == 0 {
		return api.Num{}
	}
	zeros := r.Num().TrailingZeroBits()
	mag := new(big.Int).Rsh(new(big.Int).Abs(r.Num()), zeros)
	return api.Num{M: api.Int{Neg: r.Sign() < 0, Mag: string(mag.Bytes())}, E: int(zeros) - r.Denom().BitLen() + 1}
}

// row and table make numbers of whole ones; a table has as many rows as its numbers make a square.
func row(l ...int64) []api.Num {
	var all []api.Num
	for _, n := range l {
		all = append(all, dy(n, 0))
	}
	return all
}

func table(l ...int64) [][]api.Num {
	n := int(math.Sqrt(float64(len(l))))
	m := make([][]api.Num, n)
	for i := range m {
		m[i] = row(l[i*n : (i+1)*n]...)
	}
	return m
}

// build makes a table of what each place has; scaled has that number in the diagonal, and noughts around.
func build(n int, at func(i, k int) api.Num) [][]api.Num {
	m := make([][]api.Num, n)
	for i := range m {
		m[i] = make([]api.Num, n)
		for k := range m[i] {
			m[i][k] = at(i, k)
		}
	}
	return m
}

func scaled(n int, c api.Num) [][]api.Num {
	return build(n, func(i, k int) api.Num {
		if i == k {
			return c
		}
		return api.Num{}
	})
}

func transposed(m [][]api.Num) [][]api.Num {
	return build(len(m), func(i, k int) api.Num { return m[k][i] })
}

func minus(a api.Num) api.Num { return num(new(big.Rat).Neg(rat(a))) }

// laplace tells determinants by the chapter's words, along the first row: of the last rows, as many as columns (a set of bits). What was told is kept.
type laplace struct {
	rows [][]api.Num
	kept map[uint]*big.Rat
}

func (l laplace) det(columns uint) *big.Rat {
	if columns == 0 {
		return big.NewRat(1, 1)
	}
	if kept := l.kept[columns]; kept != nil {
		return kept
	}
	first := l.rows[len(l.rows)-bits.OnesCount(columns)]
	sum, place := new(big.Rat), 0
	for c, a := range first {
		if columns>>c&1 == 0 {
			continue
		}
		product := new(big.Rat).Mul(rat(a), l.det(columns&^(1<<c)))
		if place%2 == 1 {
			product.Neg(product)
		}
		sum.Add(sum, product)
		place++
	}
	l.kept[columns] = sum
	return sum
}

// detOf is what Det should answer, adjOf what Adj should, mulOf what Mul should, applyOf what Apply should.
func detOf(m [][]api.Num) api.Num {
	return num(laplace{m, map[uint]*big.Rat{}}.det(1<<len(m) - 1))
}

func adjOf(m [][]api.Num) [][]api.Num {
	adj := scaled(len(m), api.Num{})
	for k := range m {
		l := laplace{slices.Delete(slices.Clone(m), k, k+1), map[uint]*big.Rat{}}
		for i := range m {
			adj[i][k] = num(l.det((1<<len(m) - 1) &^ (1 << i)))
			if (i+k)%2 == 1 {
				adj[i][k] = minus(adj[i][k])
			}
		}
	}
	return adj
}

func applyOf(m [][]api.Num, x []api.Num) []api.Num {
	var l []api.Num
	for _, row := range m {
		sum := new(big.Rat)
		for k, a := range row {
			sum.Add(sum, new(big.Rat).Mul(rat(a), rat(x[k])))
		}
		l = append(l, num(sum))
	}
	return l
}

func mulOf(a, b [][]api.Num) [][]api.Num {
	var l [][]api.Num
	for _, column := range transposed(b) {
		l = append(l, applyOf(a, column))
	}
	return transposed(l)
}

// tell makes a short text of tables.
func tell(l ...[][]api.Num) string {
	var b strings.Builder
	for _, m := range l {
		for i, row := range m {
			if i > 0 {
				b.WriteString(";")
			}
			for _, a := range row {
				text := "far"
				if max(a.E, -a.E, len(a.M.Mag)) < 100 && a.E > math.MinInt {
					text = rat(a).RatString()
				}
				b.WriteString(" " + text)
			}
		}
		fmt.Fprintf(&b, " (%d rows) ", len(m))
	}
	return b.String()
}

func alike(a, b [][]api.Num) bool {
	return slices.EqualFunc(a, b, func(x, y []api.Num) bool { return slices.Equal(x, y) })
}

// The checks hold an answer against what it should be.
func is(t *testing.T, what string, want [][]api.Num) func(m [][]api.Num, e api.Errno) {
	t.Helper()
	return func(m [][]api.Num, e api.Errno) {
		t.Helper()
		if e != api.OK || !alike(m, want) {
			t.Errorf("%s: %s, %d; not %s", what, tell(m), e, tell(want))
		}
	}
}

func isRow(t *testing.T, what string, want []api.Num) func(l []api.Num, e api.Errno) {
	t.Helper()
	return func(l []api.Num, e api.Errno) {
		t.Helper()
		if e != api.OK || !slices.Equal(l, want) {
			t.Errorf("%s: %s, %d; not %s", what, tell([][]api.Num{l}), e, tell([][]api.Num{want}))
		}
	}
}

func isNum(t *testing.T, what string, want api.Num) func(a api.Num, e api.Errno) {
	t.Helper()
	return func(a api.Num, e api.Errno) {
		t.Helper()
		if e != api.OK || a != want {
			t.Errorf("%s: %s, %d; not %s", what, tell([][]api.Num{{a}}), e, tell([][]api.Num{{want}}))
		}
	}
}

// right holds all that is told of one table against the definitions.
func right(t *testing.T, what string, m [][]api.Num) {
	t.Helper()
	if e := Check(m); e != api.OK {
		t.Errorf("Check of %s: %d", what, e)
	}
	isNum(t, "Det of "+what+tell(m), detOf(m))(Det(m))
	is(t, "Adj of "+what+tell(m), adjOf(m))(Adj(m))
}

// raw makes numbers of what chance says, in any form: noughts too, with signs and Es.
func raw(r *rand.Rand) api.Num {
	b := make([]byte, r.Intn(12))
	r.Read(b)
	mag := strings.Repeat("\x00", r.Intn(3)) + string(b) + strings.Repeat("\x00", r.Intn(3))
	if r.Intn(5) == 0 {
		mag = strings.Repeat("\x00", r.Intn(3))
	}
	return api.Num{M: api.Int{Neg: r.Intn(2) == 0, Mag: mag}, E: r.Intn(120) - 60}
}

// ranked makes a table of whole numbers, of that rank at most: the product of one that is so narrow and one that is so low.
func ranked(r *rand.Rand, n, rank int) [][]api.Num {
	some := func() int64 { return int64(r.Intn(7) - 3) }
	left, right := make([]int64, n*rank), make([]int64, n*rank)
	for i := range left {
		left[i], right[i] = some(), some()
	}
	return build(n, func(i, k int) api.Num {
		sum := int64(0)
		for j := range rank {
			sum += left[i*rank+j] * right[j*n+k]
		}
		return dy(sum, 0)
	})
}

// samples are tables with so many rows: noughts, the unit, edges, what chance (the same each time) makes, thin and full, of all ranks, in the one form and not.
func samples(n int) [][][]api.Num {
	r := rand.New(rand.NewSource(int64(n)))
	l := [][][]api.Num{scaled(n, api.Num{}), scaled(n, dy(1, 0)), scaled(n, dy(-3, -2))}
	for _, at := range []func(i, k int) api.Num{
		func(i, k int) api.Num { return dy(1, 0) },
		func(i, k int) api.Num { return dy(int64(n*i+k), 0) },
		func(i, k int) api.Num { return dy(int64(i-k), 0) },
		func(i, k int) api.Num { return dy(int64(max(i-k+1, 0)), i) },
		func(i, k int) api.Num { return dy(int64(max(k-i, 0)), -k) },
		func(i, k int) api.Num { return dy(int64(bits.OnesCount(uint(i&k))%2*2-1), 0) },
		func(i, k int) api.Num { return dy(int64(r.Intn(3)-1), 0) },
		func(i, k int) api.Num { return dy(int64(r.Intn(3)-1), 0) },
		func(i, k int) api.Num { return dy(int64(r.Intn(7)/5), 0) },
		func(i, k int) api.Num { return dy(int64(r.Intn(7)/4), 0) },
		func(i, k int) api.Num { return dy(r.Int63n(1<<40)-1<<39, r.Intn(80)-40) },
		func(i, k int) api.Num { return raw(r) },
		func(i, k int) api.Num { return raw(r) },
		func(i, k int) api.Num { return raw(r) },
	} {
		l = append(l, build(n, at))
	}
	for rank := range n {
		l = append(l, ranked(r, n, rank), ranked(r, n, rank))
	}
	return l
}

// The chapter's examples, row by row.
func TestExamples(t *testing.T) {
	isNum(t, "Det(1 2; 3 4)", dy(-2, 0))(Det(table(1, 2, 3, 4)))
	isNum(t, "Det of none", dy(1, 0))(Det(nil))

	is(t, "Adj(1 2; 3 4)", table(4, -2, -3, 1))(Adj(table(1, 2, 3, 4)))
	is(t, "Adj(7)", table(1))(Adj(table(7)))

	isRow(t, "Apply(1 2; 3 4; 1, 1/2)", row(2, 5))(Apply(table(1, 2, 3, 4), dy(1, 0), dy(1, -1)))

	if a, e := Det([][]api.Num{row(1, 2), row(3)}); e != api.ErrArg || a != (api.Num{}) {
		t.Errorf("Det(1 2; 3): %v, %d", a, e)
	}
}

// wrong are tables that may not be.
func wrong() [][][]api.Num {
	l := [][][]api.Num{{{}}, {nil}, {row(1, 2)}, {row(1), row(2)}, {{}, {}}, {nil, row(1, 2)}, {row(1, 2), row(3)}, {row(1, 2), row(3), row(4, 5)}, scaled(9, dy(1, 0)), make([][]api.Num, 9), make([][]api.Num, 1<<16)}
	for n := 1; n <= 8; n++ {
		for i := range n {
			short, long := scaled(n, dy(1, 0)), scaled(n, dy(1, 0))
			short[i] = short[i][:n-1]
			long[i] = append(long[i], api.Num{})
			l = append(l, short, long)
		}
		l = append(l, scaled(n, dy(1, 0))[:n-1:n-1], append(scaled(n, dy(1, 0)), make([]api.Num, n)))
	}
	return slices.DeleteFunc(l, func(m [][]api.Num) bool { return len(m) == 0 })
}

// P10.1
func TestCheck(t *testing.T) {
	for n := range 9 {
		if e := Check(scaled(n, dy(1, 0))); e != api.OK {
			t.Errorf("Check of %d rows: %d", n, e)
		}
		if e := Check(build(n, func(i, k int) api.Num { return down("\x00", math.MinInt) })); e != api.OK {
			t.Errorf("Check of %d rows of any numbers: %d", n, e)
		}
	}
	if Check(nil) != api.OK || Check([][]api.Num{}) != api.OK {
		t.Error("Check of none")
	}
	for _, m := range wrong() {
		if e := Check(m); e != api.ErrArg {
			t.Errorf("Check of %s: %d", tell(m), e)
		}
	}
}

// P10.2, P10.3, R2: a table that may not be, in each place.
func TestWrong(t *testing.T) {
	for _, m := range wrong() {
		if a, e := Det(m); e != api.ErrArg || a != (api.Num{}) {
			t.Errorf("Det of %s: %v, %d", tell(m), a, e)
		}
		if l, e := Adj(m); e != api.ErrArg || len(l) != 0 {
			t.Errorf("Adj of %s: %v, %d", tell(m), l, e)
		}
		good := [][][]api.Num{m, nil, scaled(min(len(m), 9), dy(1, 0)), scaled(min(len(m[0]), 9), dy(1, 0))}
		for _, other := range good {
			if l, e := Mul(m, other); e != api.ErrArg || len(l) != 0 {
				t.Errorf("Mul of %s, %s: %v, %d", tell(m), tell(other), l, e)
			}
			if l, e := Mul(other, m); e != api.ErrArg || len(l) != 0 {
				t.Errorf("Mul of %s, %s: %v, %d", tell(other), tell(m), l, e)
			}
		}
		for _, n := range []int{0, len(m[0]), len(m), len(m) + 1} {
			if l, e := Apply(m, make([]api.Num, n)...); e != api.ErrArg || len(l) != 0 {
				t.Errorf("Apply of %s to %d numbers: %v, %d", tell(m), n, l, e)
			}
		}
	}
}

// P10.2, R2: what may be, but not together.
func TestUnlike(t *testing.T) {
	for n := range 9 {
		for k := range 10 {
			if k != n {
				if l, e := Apply(scaled(n, dy(1, 0)), make([]api.Num, k)...); e != api.ErrArg || len(l) != 0 {
					t.Errorf("Apply of %d rows to %d numbers: %v, %d", n, k, l, e)
				}
				if l, e := Mul(scaled(n, dy(1, 0)), scaled(k, dy(1, 0))); e != api.ErrArg || len(l) != 0 {
					t.Errorf("Mul of %d rows and %d: %v, %d", n, k, l, e)
				}
			}
		}
	}
}

// P10.2, R4
func TestMul(t *testing.T) {
	for n := range 9 {
		l := samples(n)
		for i, a := range l {
			for _, b := range [][][]api.Num{a, l[(i+1)%len(l)], l[(5*i+3)%len(l)], l[(7*i+4)%len(l)]} {
				is(t, "Mul of "+tell(a, b), mulOf(a, b))(Mul(a, b))
			}
		}
	}
	is(t, "rows by columns", table(19, 22, 43, 50))(Mul(table(1, 2, 3, 4), table(5, 6, 7, 8)))
	is(t, "the other way round", table(23, 34, 31, 46))(Mul(table(5, 6, 7, 8), table(1, 2, 3, 4)))
	is(t, "of one", table(-6))(Mul(table(2), table(-3)))
	is(t, "of none", nil)(Mul(nil, [][]api.Num{}))
	is(t, "what goes", scaled(2, api.Num{}))(Mul(table(1, 1, 1, 1), table(1, -1, -1, 1)))
}

// P10.2, R4
func TestApply(t *testing.T) {
	for n := range 9 {
		l := samples(n)
		for i, m := range l {
			for _, other := range [][][]api.Num{l[(i+1)%len(l)], l[(3*i+5)%len(l)]} {
				for _, x := range other {
					isRow(t, "Apply of "+tell(m, [][]api.Num{x}), applyOf(m, x))(Apply(m, x...))
				}
			}
		}
	}
	isRow(t, "of none", nil)(Apply(nil))
	isRow(t, "of none", nil)(Apply([][]api.Num{}, []api.Num{}...))
	isRow(t, "of one", row(-6))(Apply(table(2), dy(-3, 0)))
	isRow(t, "noughts", row(0, 0))(Apply(table(1, 2, 3, 4), down("\x00", 7), up("", -7)))
}

// P10.3, R4
func TestDetAdj(t *testing.T) {
	for n := range 9 {
		for _, m := range samples(n) {
			right(t, "a sample", m)
		}
	}
	isNum(t, "Det of no rows", dy(1, 0))(Det([][]api.Num{}))
	is(t, "Adj of none", nil)(Adj(nil))
	is(t, "Adj of no rows", nil)(Adj([][]api.Num{}))
	is(t, "Adj of a nought", table(1))(Adj(table(0)))
	isNum(t, "Det of one", dy(-5, 3))(Det([][]api.Num{{down("\x28", 0)}}))
	isNum(t, "Det of a nought", api.Num{})(Det([][]api.Num{{down("\x00", 9)}}))
	isNum(t, "Det of three", dy(-306, 0))(Det(table(6, 1, 1, 4, -2, 5, 2, 8, 7)))
	isNum(t, "Det of powers", dy(1*2*3*1*2*1, 0))(Det(table(1, 1, 1, 1, 1, 2, 4, 8, 1, 3, 9, 27, 1, 4, 16, 64)))
	is(t, "Adj of three", table(-54, 1, 7, -18, 40, -26, 36, -46, -16))(Adj(table(6, 1, 1, 4, -2, 5, 2, 8, 7)))
}

// P10.3: tables of few small numbers, all there are. Each way in which rows have noughts, or hang on each other, is one of them.
func TestAllSmall(t *testing.T) {
	for _, c := range []struct {
		n, step int
		of      []int64
	}{{1, 1, []int64{-1, 0, 1}}, {2, 1, []int64{-2, -1, 0, 1, 2}}, {3, 1, []int64{-1, 0, 1}}, {4, 5, []int64{0, 1}}, {5, 9941, []int64{0, 1}}} {
		all := 1
		for range c.n * c.n {
			all *= len(c.of)
		}
		var known []api.Num
		for _, m := range c.of {
			known = append(known, dy(m, 0))
		}
		for i := 0; i < all; i += c.step {
			left := i
			right(t, "", build(c.n, func(_, _ int) api.Num {
				a := known[left%len(known)]
				left /= len(known)
				return a
			}))
		}
	}
}

// permutations goes through all of the numbers below n, each with whether it is odd.
func permutations(n int, yield func(l []int, odd bool)) {
	if n == 0 {
		yield(nil, false)
		return
	}
	permutations(n-1, func(l []int, odd bool) {
		for i := range n {
			yield(slices.Insert(slices.Clone(l), i, n-1), odd != ((n-1-i)%2 == 1))
		}
	})
}

// P10.3: rows of the unit in any order, so that pivots are looked for everywhere; and with one row of noughts.
func TestPermutations(t *testing.T) {
	for n := range 7 {
		permutations(n, func(l []int, odd bool) {
			one := dy(1, 0)
			if odd {
				one = dy(-1, 0)
			}
			m := build(n, func(i, k int) api.Num { return scaled(n, dy(1, 0))[l[i]][k] })
			isNum(t, tell(m), one)(Det(m))
			is(t, tell(m), build(n, func(i, k int) api.Num {
				if m[k][i] == dy(1, 0) {
					return one
				}
				return api.Num{}
			}))(Adj(m))
			for i := range min(n, 1) {
				m[i] = make([]api.Num, n)
				right(t, "a row of noughts", m)
			}
		})
	}
}

// P10.3: of a table with two rows that hang on the others the adjugate is nought; with one such it need not be.
func TestRanks(t *testing.T) {
	r := rand.New(rand.NewSource(7))
	for n := 1; n <= 8; n++ {
		for rank := range n {
			for range 5 {
				m := ranked(r, n, rank)
				isNum(t, tell(m), api.Num{})(Det(m))
				if rank < n-1 {
					is(t, tell(m), scaled(n, api.Num{}))(Adj(m))
				} else {
					is(t, tell(m), adjOf(m))(Adj(m))
				}
			}
		}
	}
	is(t, "a column of noughts", table(4, -2, 0, 0))(Adj(table(0, 2, 0, 4)))
	right(t, "columns of noughts", table(0, 0, 1, 0, 0, 2, 0, 0, 3))
	right(t, "a column of noughts", table(1, 0, 1, 5, 0, 2, 7, 0, 3))
	right(t, "the last column", table(1, 3, 0, 5, 2, 0, 7, 9, 0))
	right(t, "like columns", table(1, 1, 2, 3, 3, 4, 5, 5, 7))
	right(t, "far columns that are alike", table(1, 2, 1, 3, 4, 3, 5, 7, 5))
}

// R7: numbers of up to 4096 bytes.
func TestLong(t *testing.T) {
	r := rand.New(rand.NewSource(3))
	for _, c := range []struct{ n, bytes int }{{1, 4096}, {2, 4096}, {3, 1300}, {4, 1000}, {8, 100}} {
		for _, m := range [][][]api.Num{
			build(c.n, func(i, k int) api.Num {
				b := make([]byte, c.bytes)
				r.Read(b)
				return api.Num{M: api.Int{Neg: r.Intn(2) == 0, Mag: string(b)}, E: r.Intn(9)}
			}),
			build(c.n, func(i, k int) api.Num {
				return up(strings.Repeat("\xff", c.bytes-(i*k)%2), i-k)
			}),
		} {
			right(t, fmt.Sprintf("%d bytes", c.bytes), m)
			is(t, fmt.Sprintf("Mul with %d bytes", c.bytes), mulOf(m, m))(Mul(m, m))
			isRow(t, fmt.Sprintf("Apply with %d bytes", c.bytes), applyOf(m, m[0]))(Apply(m, m[0]...))
		}
	}
}

// R7: Es from -32768 to 32768.
func TestFar(t *testing.T) {
	right(t, "far", [][]api.Num{{dy(3, 32768)}})
	right(t, "far", [][]api.Num{{dy(1, 32768), dy(-7, -32768)}, {dy(1, 32768), dy(5, -32768)}})
	right(t, "far", [][]api.Num{{dy(3, 16384), dy(1, -16384)}, {dy(1, -16384), dy(3, 16384)}})
	right(t, "far", [][]api.Num{{{}, dy(1, -32768)}, {dy(1, 32768), dy(1, 0)}})
	right(t, "far", [][]api.Num{{dy(1, 10000), dy(3, -9999), {}}, {dy(5, 0), {}, dy(-1, -10000)}, {dy(1, -10000), dy(1, 10000), dy(1, 0)}})
	far := scaled(2, dy(-1, 32768))
	is(t, "Mul", scaled(2, dy(1, 0)))(Mul(far, scaled(2, dy(-1, -32768))))
	isRow(t, "Apply", []api.Num{dy(-3, 0), dy(5, 0)})(Apply(far, dy(3, -32768), dy(-5, -32768)))
}

// R1: beyond what is promised, a call comes to its end.
func TestEnds(t *testing.T) {
	ends := []int{math.MinInt, math.MinInt + 1, -1 << 62, -1 << 40, 0, 1 << 40, 1 << 62, math.MaxInt - 1, math.MaxInt}
	r := rand.New(rand.NewSource(5))
	for n := range 9 {
		for range 200 {
			m := build(n, func(i, k int) api.Num {
				return api.Num{M: api.Int{Neg: r.Intn(2) == 0, Mag: []string{"\x01", "\x05", "\x00\x08", "", "\xff"}[r.Intn(5)]}, E: ends[r.Intn(len(ends))]}
			})
			Det(m)
			Adj(m)
			Mul(m, m)
			for _, x := range m {
				Apply(m, x...)
			}
		}
	}
}

// R1: so far as the answer can be told, it is right beyond that.
func TestFarAnswers(t *testing.T) {
	for _, e := range []int{1 << 40, -1 << 40} {
		isNum(t, "a diagonal", dy(105, 3*e))(Det([][]api.Num{{dy(3, e), {}, {}}, {{}, {}, dy(-5, e)}, {{}, dy(7, e), {}}}))
		is(t, "one far column", [][]api.Num{{dy(4, 0), dy(-2, 0)}, {dy(-3, e), dy(1, e)}})(Adj([][]api.Num{{dy(1, e), dy(2, 0)}, {dy(3, e), dy(4, 0)}}))
		isNum(t, "one far row", dy(-2, e))(Det([][]api.Num{{dy(1, 0), dy(2, 0)}, {dy(3, e), dy(4, e)}}))
	}
}

// P10.5
func TestProducts(t *testing.T) {
	for n := range 9 {
		l := samples(n)
		for i, a := range l {
			for _, b := range [][][]api.Num{a, l[(i+1)%len(l)], l[(5*i+2)%len(l)]} {
				product, e := Mul(a, b)
				x, f := Det(a)
				y, g := Det(b)
				if e != api.OK || f != api.OK || g != api.OK {
					t.Errorf("%s: %d, %d, %d", tell(a, b), e, f, g)
				}
				isNum(t, "Det of a product of "+tell(a, b), num(new(big.Rat).Mul(rat(x), rat(y))))(Det(product))
			}
			adj, _ := Adj(a)
			det, _ := Det(a)
			is(t, "a table times its adjugate: "+tell(a), scaled(n, det))(Mul(a, adj))
			is(t, "an adjugate times its table: "+tell(a), scaled(n, det))(Mul(adj, a))
		}
	}
}

// P10.6
func TestTurned(t *testing.T) {
	for n := range 9 {
		for _, m := range samples(n) {
			det, _ := Det(m)
			isNum(t, "rows for columns: "+tell(m), det)(Det(transposed(m)))
			adj, _ := Adj(m)
			is(t, "rows for columns: "+tell(m), transposed(adj))(Adj(transposed(m)))
			for i := range n {
				for k := range i {
					other := slices.Clone(m)
					other[i], other[k] = m[k], m[i]
					isNum(t, "rows exchanged: "+tell(m), minus(det))(Det(other))
				}
			}
		}
	}
}

// P10.4, R3: what is handed in stays, also in the room behind its ends, and where tables and rows share memory.
func TestStays(t *testing.T) {
	for n := range 9 {
		for _, m := range samples(n) {
			room := make([]api.Num, (n+1)*(n+2))
			for i := range room {
				room[i] = up("behind", i)
			}
			a := make([][]api.Num, n, n+3)
			for i := range m {
				a[i] = room[i*(n+1) : i*(n+1)+n]
				copy(a[i], m[i])
			}
			x := room[n*(n+1) : n*(n+1)+n]
			behind := row(1, 2, 3)
			a[:n+1][n] = behind
			kept, rows, numbers := slices.Clone(room), slices.Clone(a[:n+3]), applyOf(m, x)
			isNum(t, "Det", detOf(m))(Det(a))
			is(t, "Adj", adjOf(m))(Adj(a))
			is(t, "Mul", mulOf(m, m))(Mul(a, a))
			isRow(t, "Apply", numbers)(Apply(a, x...))
			if n > 0 {
				isRow(t, "Apply to a row", applyOf(m, m[n-1]))(Apply(a, a[n-1]...))
			}
			same := func(x, y []api.Num) bool { return len(x) == len(y) && unsafe.SliceData(x) == unsafe.SliceData(y) }
			if !slices.Equal(room, kept) || !slices.EqualFunc(a[:n+3], rows, same) || !slices.Equal(behind, row(1, 2, 3)) {
				t.Errorf("changed: %s", tell(m))
			}
		}
	}
	one := row(2, 3, 5)
	shared := [][]api.Num{one, one, one}
	isNum(t, "one row three times", api.Num{})(Det(shared))
	is(t, "one row three times", scaled(3, api.Num{}))(Adj(shared))
	is(t, "one row three times", build(3, func(i, k int) api.Num { return dy([]int64{20, 30, 50}[k], 0) }))(Mul(shared, shared))
	if !slices.Equal(one, row(2, 3, 5)) {
		t.Errorf("%v", one)
	}
}

// P10.4: what is answered belongs to the caller: no row of it has memory of another one's, or of what was handed in.
func TestNewMemory(t *testing.T) {
	for n := range 9 {
		for _, m := range samples(n) {
			kept := build(n, func(i, k int) api.Num { return m[i][k] })
			x := slices.Clone(slices.Concat(m...)[:n])
			for _, answer := range []func() [][]api.Num{
				func() [][]api.Num { l, _ := Adj(m); return l },
				func() [][]api.Num { l, _ := Mul(m, scaled(n, dy(1, 0))); return l },
				func() [][]api.Num { l, _ := Mul(scaled(n, dy(1, 0)), m); return l },
				func() [][]api.Num { l, _ := Apply(m, x...); return [][]api.Num{l} },
			} {
				first := answer()
				want := slices.Clone(first)
				for i, row := range first {
					want[i] = slices.Clone(row)
				}
				for i, row := range first {
					if !slices.Equal(row, want[i]) {
						t.Errorf("row %d has another one's memory: %s", i, tell(m))
					}
					for k := range row {
						row[k] = up("spoilt", k)
					}
					_ = append(row, up("spoilt", 9))
				}
				_ = append(first, row(9))
				if !alike(m, kept) || !alike(answer(), want) {
					t.Errorf("memory that is not the caller's alone: %s", tell(m))
				}
			}
		}
	}
}

// P10.4: a number that is answered as it was handed in has memory of its own.
func TestNewNumbers(t *testing.T) {
	mag := string([]byte("an odd number's bytes, as 's' is odd")) + "s"
	a := up(mag, -5)
	one := scaled(2, dy(1, 0))
	for _, m := range [][][]api.Num{{{a, {}}, {{}, a}}, {{{}, a}, {a, {}}}, {{a, a}, {a, a}}} {
		product, _ := Mul(m, one)
		other, _ := Mul(one, m)
		adj, _ := Adj(m)
		applied, _ := Apply(m, dy(1, 0), api.Num{})
		for _, b := range slices.Concat(product[0], product[1], other[0], other[1], adj[0], adj[1], applied) {
			if b.M.Mag != "" && (b.M.Mag != mag || unsafe.StringData(b.M.Mag) == unsafe.StringData(mag)) {
				t.Errorf("%v", b)
			}
		}
	}
	if b, _ := Det([][]api.Num{{a}}); b != a || unsafe.StringData(b.M.Mag) == unsafe.StringData(mag) {
		t.Errorf("%v", b)
	}
}
