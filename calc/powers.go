package calc

import (
	"ogee/api"
	"ogee/dyad"
)

// powers are a number's, from 0 on, kept as far as they were asked for: terms ask for the same ones again and again.
type powers struct {
	of   api.Num
	kept []api.Num
}

func (p *powers) to(n int) api.Num {
	if len(p.kept) == 0 {
		p.kept = append(p.kept, dyad.Of(1))
	}
	for len(p.kept) <= n {
		p.kept = append(p.kept, dyad.Mul(p.kept[len(p.kept)-1], p.of))
	}
	return p.kept[n]
}
