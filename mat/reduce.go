package mat

import (
	"slices"

	"ogee/api"
	"ogee/dyad"
	"ogee/whole"
)

// reduction is rows, one fewer than their columns, of which each gets a column to itself; the column that is left over is the free one.
type reduction struct {
	rows   [][]api.Num
	free   int     // the last column, until another one is found that no row can have
	pivot  api.Num // the number of the last row that got a column, there; 1 ahead of the first one
	turned bool    // whether two rows were exchanged an odd number of times
}

// cofactors answers for each column i the determinant of the table without the row k and that column, turned to its negative, if i + k is odd.
//
// One reduction has all of them: what they make of each other row is 0, so they are told by the free column's numbers but for one factor, and that column's own one is the last pivot, but for its sign.
func cofactors(m [][]api.Num, k int) []api.Num {
	r := reduction{rows: without(m, k), free: len(m) - 1, pivot: dyad.Of(1)}
	if !r.reduce() {
		return make([]api.Num, len(m))
	}
	var l []api.Num
	for _, row := range r.rows {
		l = append(l, dyad.Neg(row[r.free]))
	}
	l = slices.Insert(l, r.free, r.pivot)
	if odd := (r.free+k)%2 == 1; odd != r.turned {
		for i, c := range l {
			l[i] = dyad.Neg(c)
		}
	}
	return l
}

// without answers all rows but one, as they can be worked with: in memory of their own, and in the one form, without which a division would leave a rest.
func without(m [][]api.Num, k int) [][]api.Num {
	var rows [][]api.Num
	for i, row := range m {
		if i == k {
			continue
		}
		l := make([]api.Num, len(row))
		for j, a := range row {
			l[j] = dyad.Form(a)
		}
		rows = append(rows, l)
	}
	return rows
}

// reduce gives columns to rows, from the first of both on. It answers false, if a second column is left over, as all determinants are 0 then.
func (r *reduction) reduce() bool {
	at := 0
	for column := 0; at < len(r.rows); column++ {
		switch {
		case r.raise(at, column):
			r.clear(at, column)
			at++
		case column > at:
			return false
		default:
			r.free = column
		}
	}
	return true
}

// raise brings a row that can have a column, from those on that have none, to the place at. It answers false, if there is no such row.
func (r *reduction) raise(at, column int) bool {
	has := func(row []api.Num) bool { return dyad.Sign(row[column]) != 0 }
	found := slices.IndexFunc(r.rows[at:], has)
	if found > 0 {
		r.rows[at], r.rows[at+found] = r.rows[at+found], r.rows[at]
		r.turned = !r.turned
	}
	return found >= 0
}

// clear makes the column 0 in the other rows; the columns that rows have already are not written down, as nothing asks for them any more. After it each number is a determinant of a part of the table, so that there is no rest where the pivot before divides (Bareiss' rule), and numbers are no longer than they must be.
func (r *reduction) clear(at, column int) {
	pivot := r.rows[at][column]
	for i, row := range r.rows {
		if i == at {
			continue
		}
		for k := range row {
			if k > column || k == r.free {
				cross := dyad.Sub(dyad.Mul(pivot, row[k]), dyad.Mul(row[column], r.rows[at][k]))
				row[k] = quotient(cross, r.pivot)
			}
		}
	}
	r.pivot = pivot
}

// quotient answers a divided by b, where that is a dyadic number, and b is in the one form and no nought: their odd Ms leave no rest then.
func quotient(a, b api.Num) api.Num {
	m, _, _ := whole.Div(a.M, b.M)
	return dyad.Shift(api.Num{M: m, E: a.E}, -b.E)
}
