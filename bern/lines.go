package bern

import (
	"iter"
	"slices"

	"ogee/api"
)

// lines goes over the lines of a form's numbers along an axis, in the order of the rows of all other indices: how many there were, and the line, as a list that whoever gets it may change.
func lines(f api.Form, axis int) iter.Seq2[int, []api.Num] {
	return func(yield func(int, []api.Num) bool) {
		length := f.Deg[axis] + 1
		for k := range len(f.C) / length {
			first, step := spot(f, axis, k)
			line := make([]api.Num, length)
			for i := range line {
				line[i] = f.C[first+i*step]
			}
			if !yield(k, line) {
				return
			}
		}
	}
}

// spot answers where a line along an axis begins, and how far its numbers stand from each other.
func spot(f api.Form, axis, line int) (first, step int) {
	step = 1
	for _, d := range f.Deg[axis+1:] {
		step *= d + 1
	}
	blocks, within := line/step, line%step
	return blocks*step*(f.Deg[axis]+1) + within, step
}

// along answers the form that has, for each line along an axis, what do makes of it: one number more than deg, which is its degree there.
func along(f api.Form, axis, deg int, do func(line []api.Num) []api.Num) api.Form {
	g := api.Form{Deg: slices.Clone(f.Deg), C: make([]api.Num, len(f.C)/(f.Deg[axis]+1)*(deg+1))}
	g.Deg[axis] = deg
	for k, line := range lines(f, axis) {
		first, step := spot(g, axis, k)
		for i, c := range do(line) {
			g.C[first+i*step] = c
		}
	}
	return g
}

// without answers the form that has no such axis, and for each line along it the number that do makes of that.
func without(f api.Form, axis int, do func(line []api.Num) api.Num) api.Form {
	g := api.Form{Deg: slices.Delete(slices.Clone(f.Deg), axis, axis+1)}
	for _, line := range lines(f, axis) {
		g.C = append(g.C, do(line))
	}
	return g
}
