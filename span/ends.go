package span

import (
	"ogee/api"
	"ogee/dyad"
)

// turned is a span whose Lo is not above its Hi, so that each end tells on which side it is one.
type turned struct{ api.Span }

func turn(s api.Span) turned {
	if dyad.Cmp(s.Lo, s.Hi) > 0 {
		s.Lo, s.Hi = s.Hi, s.Lo
	}
	return turned{s}
}

func (x turned) has(a api.Num) bool {
	return dyad.Cmp(x.Lo, a) <= 0 && dyad.Cmp(a, x.Hi) <= 0
}

// both answers the span between what do makes of one end and of the other, whichever of these is the lower one then.
func both(s api.Span, do func(end api.Num) api.Num) api.Span {
	return turn(api.Span{Lo: do(s.Lo), Hi: do(s.Hi)}).Span
}

// gathered answers what low makes of all lower ends, and high of all upper ones: perhaps a Lo above the Hi.
func gathered(l []api.Span, low, high func(row ...api.Num) api.Num) api.Span {
	lows, highs := make([]api.Num, len(l)), make([]api.Num, len(l))
	for i, s := range l {
		x := turn(s)
		lows[i], highs[i] = x.Lo, x.Hi
	}
	return api.Span{Lo: low(lows...), Hi: high(highs...)}
}

// corners answers what do makes of each end of s with each end of t.
func corners[T any](s, t api.Span, do func(a, b api.Num) T) [4]T {
	return [4]T{do(s.Lo, t.Lo), do(s.Lo, t.Hi), do(s.Hi, t.Lo), do(s.Hi, t.Hi)}
}
