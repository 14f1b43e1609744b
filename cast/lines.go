package cast

import (
	"iter"

	"ogee/api"
)

// lines goes over the lines of a form's numbers along an axis: where each one's numbers stand. The list is the same for all, so it is for what is done with one line before the next.
func lines(f api.Form, axis int) iter.Seq[[]int] {
	step := 1
	for _, d := range f.Deg[axis+1:] {
		step *= d + 1
	}
	return func(yield func([]int) bool) {
		places := make([]int, f.Deg[axis]+1)
		for first := range f.C {
			if first/step%len(places) != 0 {
				continue // a line begins where its axis' index is 0
			}
			for i := range places {
				places[i] = first + i*step
			}
			if !yield(places) {
				return
			}
		}
	}
}

// along puts in the place of each line along an axis what do makes of it.
func along(f api.Form, axis int, do func(line []api.Num)) {
	line := make([]api.Num, f.Deg[axis]+1)
	for places := range lines(f, axis) {
		for i, at := range places {
			line[i] = f.C[at]
		}
		do(line)
		for i, at := range places {
			f.C[at] = line[i]
		}
	}
}
