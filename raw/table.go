package raw

import (
	"graver/class"
	"graver/phdr"
	"graver/shdr"
	"graver/span"
)

// table of n records, of size bytes each, from position at on.
type table struct{ at, n, size uint64 }

func (f File) sectionTable(n uint64) table {
	return table{at: f.Header.Shoff, n: n, size: uint64(shdr.Size(f.Form))}
}

func (f File) segmentTable(n uint64) table {
	return table{at: f.Header.Phoff, n: n, size: uint64(phdr.Size(f.Form))}
}

// span returns the bytes of a table. Without records there is no table, and its
// position means nothing.
func (t table) span() span.Span {
	if t.n == 0 {
		return span.Span{}
	}
	return span.Span{At: t.at, Len: t.n * t.size}
}

// records returns the records of a table in the file s, each of which read
// finds at the beginning of what it is given; false if they are not all
// present.
func records[T any](f class.Form, s string, t table, read func(class.Form, string) (T, bool)) ([]T, bool) {
	part, ok := t.span().Part(s)
	if !ok {
		return nil, false
	}
	l := make([]T, t.n)
	for i := range l {
		l[i], ok = read(f, part[uint64(i)*t.size:])
		if !ok {
			return nil, false
		}
	}
	return l, true
}
