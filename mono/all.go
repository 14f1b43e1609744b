package mono

import "ogee/api"

// most is how many bytes a list's products have in all, at most: nothing is promised of more, and to ask for their memory could end the program.
const most = 1<<31 - 1

// counted answers how many products are within the degrees, and whether a list has all of them.
func counted(degs []int) (int, bool) {
	count := 1
	for _, d := range degs {
		if !isExp(d) {
			return 0, false
		}
		count *= d + 1
		if count > api.MaxMonos {
			return 0, false
		}
	}
	return count, len(degs) <= most/count
}

// step makes of a product the next one within the degrees. The last variable goes first, as it is the one that moves a string least.
func step(m []byte, degs []int) {
	for i := len(m) - 1; i >= 0; i-- {
		if int(m[i]) < degs[i] {
			m[i]++
			return
		}
		m[i] = 0
	}
}
