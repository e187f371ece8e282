package raw

import "graver/span"

// filled is a section that has at least one byte in the file.
type filled struct {
	span.Span
	index int
}

func (f File) filled() []filled {
	var l []filled
	for i, x := range f.Sections {
		if HasData(x) && x.Size > 0 {
			l = append(l, filled{Span: data(x), index: i})
		}
	}
	return l
}

// Overlaps returns the pairs of sections that share a byte of the file, each
// with the lower index first.
func (f File) Overlaps() [][2]int {
	var pairs [][2]int
	l := f.filled()
	for k, high := range l {
		for _, low := range l[:k] {
			if meet(low.Span, high.Span) {
				pairs = append(pairs, [2]int{low.index, high.index})
			}
		}
	}
	return pairs
}

// Covered returns the sections that have at least one byte in the file, and all
// of them within the bytes of a segment.
func (f File) Covered(segment int) []int {
	if segment < 0 || segment >= len(f.Segments) {
		return nil
	}
	var l []int
	for _, x := range f.filled() {
		if within(x.Span, image(f.Segments[segment])) {
			l = append(l, x.index)
		}
	}
	return l
}

// meet reports whether two spans that are not empty share a byte. Like within,
// it subtracts only, so that no end has to be less than 2^64.
func meet(a, b span.Span) bool {
	if a.At > b.At {
		a, b = b, a
	}
	return b.At-a.At < a.Len
}

// within reports whether all bytes of a are in b.
func within(a, b span.Span) bool {
	return a.At >= b.At && a.At-b.At <= b.Len && a.Len <= b.Len-(a.At-b.At)
}
