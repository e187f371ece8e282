package span

import (
	"cmp"
	"math"
	"slices"
)

// Gaps returns the bytes from 0 to size - 1 that are in none of the spans, as
// the least number of spans, in ascending order.
func Gaps(size uint64, l ...Span) []Span {
	var gaps []Span
	var done uint64
	for _, s := range ascending(l) {
		if s.At >= size {
			break
		}
		if s.At > done {
			gaps = append(gaps, Span{At: done, Len: s.At - done})
		}
		done = max(done, s.bound())
	}
	if done < size {
		gaps = append(gaps, Span{At: done, Len: size - done})
	}
	return gaps
}

// Clash reports whether a byte is in two of the spans.
func Clash(l ...Span) bool {
	sorted := ascending(l)
	// If two spans share a byte, the first of them also has the first byte of
	// the span that follows it in this order: neighbours are enough.
	for i := 1; i < len(sorted); i++ {
		if sorted[i].At-sorted[i-1].At < sorted[i-1].Len {
			return true
		}
	}
	return false
}

// Union returns the bytes that are in at least one of the spans that have an
// end, as the least number of non-empty spans, in ascending order.
func Union(l ...Span) []Span {
	var union []Span
	var last uint64
	for _, s := range ascending(l) {
		end, ok := s.End()
		if !ok {
			continue
		}
		if len(union) == 0 || s.At > last {
			union = append(union, s)
			last = end
			continue
		}
		last = max(last, end)
		k := len(union) - 1
		union[k].Len = last - union[k].At
	}
	return union
}

// Common returns the bytes that are in both spans, and true, or a zero Span and
// false if there are none or a span has no end.
func Common(a, b Span) (Span, bool) {
	endA, okA := a.End()
	endB, okB := b.End()
	at, end := max(a.At, b.At), min(endA, endB)
	if !okA || !okB || at >= end {
		return Span{}, false
	}
	return Span{At: at, Len: end - at}, true
}

// ascending returns a new list of the spans that are not empty, in ascending
// order of their first bytes. Empty spans have no byte in common with anything,
// and would split gaps in two.
func ascending(l []Span) []Span {
	var full []Span
	for _, s := range l {
		if s.Len > 0 {
			full = append(full, s)
		}
	}
	slices.SortFunc(full, func(a, b Span) int { return cmp.Compare(a.At, b.At) })
	return full
}

// bound returns the end of the span, or the greatest number if it has none: no
// byte below a size is at that number or beyond it.
func (s Span) bound() uint64 {
	end, ok := s.End()
	if !ok {
		return math.MaxUint64
	}
	return end
}
