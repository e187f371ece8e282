package strtab

import (
	"slices"
	"strings"

	"graver/api"
)

// entry is a name that is not empty, once for all times that it was given.
type entry struct {
	name string
	back string // the name from its last byte to its first one
	last int    // its last index among those given
	end  int    // the offset of the byte 0 behind it in the table; 0 as long as it is unknown
	tail int    // the index of the entry that is its longest proper suffix; -1 if there is none
}

// Build returns a shortest table that begins with a byte 0 and contains all
// names, and the least offset of each of them. It returns ErrName if a name
// contains a byte 0, and ErrLong if the table would have more than MaxFile
// bytes.
func Build(names ...string) (string, []uint64, api.Errno) {
	last := map[string]int{}
	for i, name := range names {
		if !isName(name) {
			return "", nil, api.ErrName
		}
		if name != "" {
			last[name] = i
		}
	}
	l := entries(last)
	table, ok := lay(l)
	if !ok {
		return "", nil, api.ErrLong
	}
	at := offsets(l)
	out := make([]uint64, len(names))
	for i, name := range names {
		out[i] = at[name] // 0 for the empty name, which is not among them
	}
	return table, out, api.OK
}

// entries returns the names with their last indices so sorted that those that
// end with a name come directly behind it.
func entries(last map[string]int) []entry {
	l := make([]entry, 0, len(last))
	for name, i := range last {
		l = append(l, entry{name: name, back: reverse(name), last: i})
	}
	slices.SortFunc(l, func(a, b entry) int { return strings.Compare(a.back, b.back) })
	for i := range l {
		l[i].tail = i - 1
		for l[i].tail >= 0 && !strings.HasPrefix(l[i].back, l[l[i].tail].back) {
			l[i].tail = l[l[i].tail].tail
		}
	}
	return l
}

// lay returns the table of the entries that are no suffix of another one, and
// notes where they end; false if it would have more than MaxFile bytes.
func lay(l []entry) (string, bool) {
	var whole []int
	size := 1
	for i := range l {
		if i+1 < len(l) && l[i+1].tail == i {
			continue
		}
		whole = append(whole, i)
		size += len(l[i].name) + 1
	}
	if size > api.MaxFile {
		return "", false
	}
	slices.SortFunc(whole, func(i, k int) int { return l[k].last - l[i].last })
	var b strings.Builder
	b.WriteByte(0)
	for _, i := range whole {
		b.WriteString(l[i].name)
		l[i].end = b.Len()
		b.WriteByte(0)
	}
	return b.String(), true
}

// offsets returns the least offset of each entry, if those that are no suffix
// of another one are laid.
func offsets(l []entry) map[string]uint64 {
	at := make(map[string]uint64, len(l))
	// Backward, so that an entry has heard of all that end with it before it
	// tells its own tail.
	for _, e := range slices.Backward(l) {
		at[e.name] = uint64(e.end - len(e.name))
		if e.tail < 0 {
			continue
		}
		if tail := &l[e.tail]; tail.end == 0 || e.end < tail.end {
			tail.end = e.end
		}
	}
	return at
}

func reverse(s string) string {
	b := []byte(s)
	slices.Reverse(b)
	return string(b)
}
