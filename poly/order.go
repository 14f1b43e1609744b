package poly

// byHalves answers what all parts' rows are together, rising: of each half of the parts first, then of both halves. Each part's row must rise by itself.
func byHalves[P, T any](parts []P, row func(part P) []T, ahead func(a, b T) bool, alike func(a, b T) T) []T {
	switch len(parts) {
	case 0:
		return nil
	case 1:
		return row(parts[0])
	}
	half := len(parts) / 2
	low := byHalves(parts[:half], row, ahead, alike)
	high := byHalves(parts[half:], row, ahead, alike)
	return merged(low, high, ahead, alike)
}

// merged puts two rows together that rise; two that stand in neither order are alike, and make one.
func merged[T any](a, b []T, ahead func(a, b T) bool, alike func(a, b T) T) []T {
	l := make([]T, 0, len(a)+len(b))
	for len(a) > 0 && len(b) > 0 {
		switch {
		case ahead(a[0], b[0]):
			l, a = append(l, a[0]), a[1:]
		case ahead(b[0], a[0]):
			l, b = append(l, b[0]), b[1:]
		default:
			l, a, b = append(l, alike(a[0], b[0])), a[1:], b[1:]
		}
	}
	return append(append(l, a...), b...)
}
