// Package order is layer 1, integers in both byte orders: see shared/doc/01-order.md.
package order

import "strings"

// maxSize is the greatest number of bytes of a number: those of a uint64.
const maxSize = 8

// Order of a number's bytes: big-endian if Big, and otherwise little-endian.
type Order struct{ Big bool }

// Put returns the encoding of n in size bytes, modulo 2^(8·size); an empty
// string if size is not between 1 and 8.
func (o Order) Put(n uint64, size int) string {
	if !isSize(size) {
		return ""
	}
	b := make([]byte, size)
	for i := range size {
		b[o.index(i, size)] = byte(n >> (8 * i))
	}
	return string(b)
}

// Get returns the number whose encoding is s; 0 for an empty string and for
// more than eight bytes.
func (o Order) Get(s string) uint64 {
	if !isSize(len(s)) {
		return 0
	}
	var n uint64
	for i := range len(s) {
		n |= uint64(s[o.index(i, len(s))]) << (8 * i)
	}
	return n
}

// Fields returns the encodings of the numbers, each in the number of bytes that
// sizes has at its index, one behind the other; what one list has beyond the
// other is ignored.
func (o Order) Fields(sizes []int, l ...uint64) string {
	var b strings.Builder
	for k := range min(len(sizes), len(l)) {
		b.WriteString(o.Put(l[k], sizes[k]))
	}
	return b.String()
}

// Signed returns the number whose encoding in two's complement is s; 0 for an
// empty string and for more than eight bytes.
func (o Order) Signed(s string) int64 {
	if !isSize(len(s)) {
		return 0
	}
	// The highest bit of s is moved to that of an int64, so that the way back
	// repeats it.
	spare := 8 * (maxSize - len(s))
	return int64(o.Get(s)<<spare) >> spare
}

// Swap returns the number whose encoding in one order is that of n in the other
// one; 0 if size is not between 1 and 8.
func Swap(n uint64, size int) uint64 {
	return Order{Big: true}.Get(Order{}.Put(n, size))
}

// index returns where the byte i of a number, counted from the lowest one, is
// among its bytes.
func (o Order) index(i, size int) int {
	if o.Big {
		return size - 1 - i
	}
	return i
}

func isSize(size int) bool { return 1 <= size && size <= maxSize }
