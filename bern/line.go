package bern

import (
	"ogee/api"
	"ogee/dyad"
)

// fromPowers makes of the numbers of t's powers those that stand with t^i (1-t)^(d-i): with each power what there is so far goes up by a degree, times t + (1-t). So sums will do.
func fromPowers(line []api.Num) []api.Num {
	for top := 1; top < len(line); top++ {
		for i := top; i > 0; i-- {
			line[i] = dyad.Add(line[i], line[i-1])
		}
	}
	return line
}

// toPowers takes back what fromPowers does, the last step first.
func toPowers(line []api.Num) []api.Num {
	for top := len(line) - 1; top > 0; top-- {
		for i := 1; i <= top; i++ {
			line[i] = dyad.Sub(line[i], line[i-1])
		}
	}
	return line
}

// widened makes of the numbers of t's powers those of the powers of t times the width, all of them times the width to the degree: so nothing is divided.
func widened(line []api.Num, width api.Num) []api.Num {
	factor := dyad.Of(1)
	for i := len(line) - 1; i >= 0; i-- {
		line[i] = dyad.Mul(line[i], factor)
		factor = dyad.Mul(factor, width)
	}
	return line
}

// slope answers the numbers of a line's slope by t: t^i (1-t)^(d-i) has one of two parts, by either factor.
func slope(line []api.Num) []api.Num {
	d := len(line) - 1
	if d == 0 {
		return []api.Num{{}}
	}
	l := make([]api.Num, d)
	for i := range l {
		up := dyad.Mul(line[i+1], dyad.Of(int64(i+1)))
		down := dyad.Mul(line[i], dyad.Of(int64(d-i)))
		l[i] = dyad.Sub(up, down)
	}
	return l
}

// valueAt answers what makes of a line of that degree its value at t. What the numbers are multiplied by is reckoned once for all lines.
func valueAt(t api.Num, deg int) func(line []api.Num) api.Num {
	ahead, behind := powers(t, deg), powers(dyad.Sub(dyad.Of(1), t), deg)
	factors := make([]api.Num, deg+1)
	for i := range factors {
		factors[i] = dyad.Mul(ahead[i], behind[deg-i])
	}
	return func(line []api.Num) api.Num {
		for i, c := range line {
			line[i] = dyad.Mul(c, factors[i])
		}
		return dyad.Add(line...)
	}
}

// powers answers a number's powers, from 0 up to n.
func powers(a api.Num, n int) []api.Num {
	l := []api.Num{dyad.Of(1)}
	for range n {
		l = append(l, dyad.Mul(l[len(l)-1], a))
	}
	return l
}

// binomials answers in how many ways none, one, two .. of d things are taken: they stand for 1.
func binomials(d int) []api.Num {
	line := make([]api.Num, d+1)
	line[0] = dyad.Of(1)
	return fromPowers(line)
}

// products answers each number of a times each one of b, those of b running fastest.
func products(a, b []api.Num) []api.Num {
	var l []api.Num
	for _, x := range a {
		for _, y := range b {
			l = append(l, dyad.Mul(x, y))
		}
	}
	return l
}
