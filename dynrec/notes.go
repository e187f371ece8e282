package dynrec

import (
	"strings"

	"graver/api"
	"graver/class"
)

// zeros are the longest padding.
const zeros = "\x00\x00\x00"

// Note of a note section.
type Note struct {
	Type       uint64
	Name, Desc string
}

// Notes returns the notes of which s consists; ErrShort if s ends within one,
// and ErrData if a padding is not zero.
func Notes(f class.Form, s string) ([]Note, api.Errno) {
	var l []Note
	r := f.Read(s, 0)
	zero := true
	padded := func(n uint64) string {
		text := r.Bytes(n)
		if strings.Trim(r.Bytes(padding(n)), "\x00") != "" {
			zero = false
		}
		return text
	}
	for r.At() < uint64(len(s)) {
		name, desc := r.Next(4), r.Next(4)
		x := Note{Type: r.Next(4), Name: padded(name), Desc: padded(desc)}
		if r.Err() != api.OK {
			return nil, api.ErrShort
		}
		l = append(l, x)
	}
	// Only now: s may have ended within a later note, which comes first.
	if !zero {
		return nil, api.ErrData
	}
	return l, api.OK
}

// PutNotes returns the encodings of the notes, one behind the other; false if a
// Type does not fit into four bytes, or they have more than MaxFile bytes.
func PutNotes(f class.Form, l ...Note) (string, bool) {
	var b strings.Builder
	for _, x := range l {
		name, desc := uint64(len(x.Name)), uint64(len(x.Desc))
		head, ok := f.Record([]int{4, 4, 4}, name, desc, x.Type)
		size := uint64(b.Len()+len(head)) + name + padding(name) + desc + padding(desc)
		if !ok || size > api.MaxFile {
			return "", false
		}
		b.WriteString(head)
		b.WriteString(x.Name)
		b.WriteString(zeros[:padding(name)])
		b.WriteString(x.Desc)
		b.WriteString(zeros[:padding(desc)])
	}
	return b.String(), true
}

// padding returns how many zero bytes follow n bytes, up to a multiple of 4.
func padding(n uint64) uint64 { return -n % 4 }
