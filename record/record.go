// Package record reads records: what is common to the layers 5 to 9, whose
// headers, symbols and relocations are numbers of given sizes, one behind the
// other.
package record

import (
	"graver/api"
	"graver/class"
)

// Read returns the numbers of the record of these sizes (0 stands for a word)
// with which s begins; false if s has fewer bytes, or a size is not between 0
// and 8.
func Read(f class.Form, s string, sizes ...int) ([]uint64, bool) {
	full, _ := f.Sizes(sizes...)
	l := make([]uint64, len(full))
	r := f.Read(s, 0)
	for k, size := range full {
		l[k] = r.Next(size)
	}
	if r.Err() != api.OK {
		return nil, false
	}
	return l, true
}
