package whole

import (
	"ogee/api"
	"ogee/nat"
)

// size is that of a sum, told by the sizes that make it up: nat adds them all in one go, without a text of each sum on the way.
type size []string

func (s size) grown(mag string) size {
	return append(s, mag)
}

// total answers the sum in nat's one form, in new memory.
func (s size) total() string {
	return nat.Add(s...)
}

// bare answers the sum too, but one number's as it came, so it is for what does not leave the package.
func (s size) bare() string {
	if len(s) == 1 {
		return s[0]
	}
	return s.total()
}

// side adds what stands on one side of 0.
type side struct {
	size
	neg bool
}

func (x side) sum() api.Int {
	return signed(x.neg, x.total())
}

// less answers what is left, when what stands on the other side is taken off.
func (x side) less(other side) api.Int {
	here, there := x.bare(), other.bare()
	if left, ok := nat.Sub(here, there); ok {
		return signed(x.neg, left)
	}
	left, _ := nat.Sub(there, here)
	return signed(other.neg, left)
}

func Add(l ...api.Int) api.Int {
	var one, two [8]string // at hand, so that a short row needs no memory from the heap
	up, down := side{size: one[:0]}, side{size: two[:0], neg: true}
	for _, a := range l {
		if a.Neg {
			down.size = down.grown(a.Mag)
		} else {
			up.size = up.grown(a.Mag)
		}
	}
	if len(down.size) == 0 {
		return up.sum()
	}
	if len(up.size) == 0 {
		return down.sum()
	}
	return up.less(down)
}

func Sub(a, b api.Int) api.Int {
	b.Neg = !b.Neg
	return Add(a, b)
}
