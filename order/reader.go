package order

import "graver/api"

// Reader of numbers and bytes, one behind the other. A nil *Reader reads
// nothing.
type Reader struct {
	Order
	text string
	at   uint64
	err  api.Errno
}

// Read returns a reader of s that starts at position at, which may be beyond
// the end of s.
func (o Order) Read(s string, at uint64) *Reader {
	return &Reader{Order: o, text: s, at: at}
}

// Next returns the number encoded in the next size bytes; 0 if size is not
// between 1 and 8, or these bytes are not all present.
func (r *Reader) Next(size int) uint64 {
	if r == nil {
		return 0
	}
	if !isSize(size) {
		r.err = api.ErrShort
		return 0
	}
	return r.Get(r.Bytes(uint64(size)))
}

// Bytes returns the next n bytes; an empty string if they are not all present.
func (r *Reader) Bytes(n uint64) string {
	if r == nil || r.err != api.OK {
		return ""
	}
	// The position is compared first: at + n may be no uint64, and even no
	// bytes are present beyond the end.
	size := uint64(len(r.text))
	if r.at > size || n > size-r.at {
		r.err = api.ErrShort
		return ""
	}
	start := r.at
	r.at += n
	return r.text[start:r.at]
}

// Err returns ErrShort once something could not be read, and ErrArg for a nil
// *Reader.
func (r *Reader) Err() api.Errno {
	if r == nil {
		return api.ErrArg
	}
	return r.err
}

// At returns the position at which reading continues.
func (r *Reader) At() uint64 {
	if r == nil {
		return 0
	}
	return r.at
}
