// Package span is layer 2, byte ranges and checked arithmetic: see
// shared/doc/02-span.md.
package span

import "math/bits"

// Span of bytes: the Len bytes from At on.
type Span struct{ At, Len uint64 }

// Add returns the sum (0 if there are no numbers) and true, or 0 and false if
// it is not less than 2^64.
func Add(l ...uint64) (uint64, bool) {
	var sum uint64
	for _, n := range l {
		next, carry := bits.Add64(sum, n, 0)
		if carry != 0 {
			return 0, false
		}
		sum = next
	}
	return sum, true
}

// Mul returns the product and true, or 0 and false if it is not less than 2^64.
func Mul(a, b uint64) (uint64, bool) {
	high, low := bits.Mul64(a, b)
	if high != 0 {
		return 0, false
	}
	return low, true
}

// Round returns the least multiple of align (of 1 if align is 0) that is not
// less than n, and true, or 0 and false if it is not less than 2^64.
func Round(n, align uint64) (uint64, bool) {
	align = max(align, 1)
	over := n % align
	if over == 0 {
		return n, true
	}
	return Add(n, align-over)
}

// End returns the end of the span and true, or 0 and false if it has none.
func (s Span) End() (uint64, bool) { return Add(s.At, s.Len) }

// In reports whether the span has an end that is not greater than size.
func (s Span) In(size uint64) bool {
	end, ok := s.End()
	return ok && end <= size
}

// Part returns the bytes of t that are in the span and true, or an empty string
// and false if it is not In len(t).
func (s Span) Part(t string) (string, bool) {
	if !s.In(uint64(len(t))) {
		return "", false
	}
	return t[s.At:][:s.Len], true
}
