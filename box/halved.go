package box

import (
	"ogee/api"
	"ogee/span"
)

// halved is a box that is halved, and its span that is parted. The half that is kept is written into the box itself, so it must be one that nobody else has: then of many halvings, one behind the other, each touches one span alone.
type halved struct {
	api.Span
	axis int
	all  api.Box
}

// along answers the box, to be halved along that axis; its spans must stand as they count.
func along(b api.Box, axis int) halved {
	return halved{Span: b[axis], axis: axis, all: b}
}

func (h halved) keepLower() {
	h.Hi = span.Mid(h.Span)
	h.all[h.axis] = h.Span
}

func (h halved) keepUpper() {
	h.Lo = span.Mid(h.Span)
	h.all[h.axis] = h.Span
}
