package place

import (
	"graver/api"
	"graver/bodies"
	"graver/ehdr"
	"graver/model"
	"graver/phdr"
	"graver/shdr"
)

// writer of a model at its place: the bytes so far.
type writer struct {
	model.Model
	place  Place
	tables []bool
	out    []byte
}

// Write returns the file that has the model at its place. It returns ErrArg if
// the parts of the model are not as many and as long as those of the place, and
// ErrLarge if a number does not fit.
func Write(m model.Model, p Place) (string, api.Errno) {
	w := writer{Model: m, place: p, tables: m.Tables()}
	if !w.hasPlace() {
		return "", api.ErrArg
	}
	w.out = make([]byte, p.Size)
	// Where two parts share bytes, the later one has them.
	parts := [...]func() bool{w.putRest, w.putHeader, w.putSectionTable, w.putSegmentTable, w.putBodies, w.putImages}
	for _, put := range parts {
		if !put() {
			return "", api.ErrLarge
		}
	}
	return string(w.out), api.OK
}

// hasPlace reports whether there is a place for each part of the model, and no
// other one.
func (w *writer) hasPlace() bool {
	p := w.place
	// A place that was not read may have a Size that no file has.
	if w.Form != p.Form || p.Size < 0 || p.Size > api.MaxFile ||
		len(w.Sections) != len(p.Sections) || len(w.Segments) != len(p.Segments) {
		return false
	}
	for i := range w.Sections {
		if !w.hasBody(i) {
			return false
		}
	}
	for i, x := range w.Segments {
		if uint64(len(x.Data)) != p.Segments[i].FileSize {
			return false
		}
	}
	return true
}

// hasBody reports whether section i has as many bytes as there are in its
// place, and a place for the name of each of its symbols.
func (w *writer) hasBody(i int) bool {
	x := &w.Sections[i]
	if x.Type == shdr.Null {
		return true
	}
	size, ok := bodies.Size(w.Model, i)
	if w.tables[i] && x.Type != shdr.NoBits {
		size, ok = uint64(len(w.table(i))), true
	}
	if x.Type == shdr.SymTab {
		n := len(x.Syms)
		ok = ok && len(part(w.place.Names, i)) >= n && len(part(w.place.Far, i)) >= n
	}
	return ok && size == w.place.Sections[i].Size
}

// lay puts a part of the file where it has its place.
func (w *writer) lay(at uint64, s string) {
	if at < uint64(len(w.out)) {
		copy(w.out[at:], s)
	}
}

func (w *writer) putRest() bool {
	for _, x := range w.place.Rest {
		w.lay(uint64(x.At), x.Text)
	}
	return true
}

// putHeader puts the ident and the header of the file.
func (w *writer) putHeader() bool {
	id, h := w.Ident, w.place.Header
	id.Pad = w.place.Pad
	h.Type, h.Machine, h.Entry, h.Flags = w.Type, w.Machine, w.Entry, w.Flags
	s, ok := ehdr.Put(w.Form, h)
	w.lay(0, id.Bytes()+s)
	return ok
}

func (w *writer) putSectionTable() bool {
	s, ok := records(w.place.Sections, func(i int, x shdr.Section) (string, bool) {
		// The first header tells of the whole file: the model has nothing of it.
		if i > 0 {
			y := &w.Sections[i]
			x.Type, x.Flags, x.Addr = y.Type, y.Flags, y.Addr
			x.Link, x.Info, x.Align, x.EntSize = y.Link, y.Info, y.Align, y.EntSize
		}
		return shdr.Put(w.Form, x)
	})
	w.lay(w.place.Header.Shoff, s)
	return ok
}

func (w *writer) putSegmentTable() bool {
	s, ok := records(w.place.Segments, func(i int, x phdr.Segment) (string, bool) {
		y := &w.Segments[i]
		x.Type, x.Flags, x.VAddr = y.Type, y.Flags, y.VAddr
		x.PAddr, x.MemSize, x.Align = y.PAddr, y.MemSize, y.Align
		return phdr.Put(w.Form, x)
	})
	w.lay(w.place.Header.Phoff, s)
	return ok
}

func (w *writer) putBodies() bool {
	for i := range w.Sections {
		s, ok := w.body(i)
		if !ok {
			return false
		}
		w.lay(w.place.Sections[i].Offset, s)
	}
	return true
}

// body returns the bytes of section i, which has some in its place.
func (w *writer) body(i int) (string, bool) {
	x := &w.Sections[i]
	switch {
	case x.Type == shdr.Null || x.Type == shdr.NoBits:
		return "", true
	case w.tables[i]:
		return w.table(i), true
	case x.Type == shdr.Indices:
		return body(w.Model, i, nil, part(w.place.Far, int(x.Link)))
	}
	return body(w.Model, i, part(w.place.Names, i), part(w.place.Far, i))
}

// table returns the bytes of the table of names i.
func (w *writer) table(i int) string {
	if i < len(w.place.Tables) {
		return w.place.Tables[i]
	}
	return ""
}

func (w *writer) putImages() bool {
	for i, x := range w.Segments {
		w.lay(w.place.Segments[i].Offset, x.Data)
	}
	return true
}

// part returns the list of section i, if there is one.
func part[T any](l [][]T, i int) []T {
	if i < len(l) {
		return l[i]
	}
	return nil
}
