package canon

import (
	"graver/api"
	"graver/bodies"
	"graver/check"
	"graver/ehdr"
	"graver/model"
	"graver/phdr"
	"graver/place"
	"graver/shdr"
	"graver/span"
	"graver/strtab"
)

// writer of a model: the place of its parts so far, and the end of the last one.
type writer struct {
	model.Model
	at   place.Place
	end  uint64
	long bool // whether the file would be too long
}

// write returns the file of a model, and the place that the model has in it.
func write(m model.Model) (string, place.Place, api.Errno) {
	if e := check.Model(m); e != api.OK {
		return "", place.Place{}, e
	}
	w := newWriter(m)
	if e := w.buildTables(); e != api.OK {
		return "", place.Place{}, e
	}
	// The lengths of the parts hang on no number that may not fit: whether the
	// file is too long is known before one is put.
	if w.layParts(); w.long {
		return "", place.Place{}, api.ErrLong
	}
	s, e := place.Write(m, w.at)
	if e != api.OK {
		return "", place.Place{}, e
	}
	return s, w.at, api.OK
}

// newWriter returns a writer of a valid model, none of whose parts has a
// position yet, and none of whose symbols is far.
func newWriter(m model.Model) *writer {
	w := &writer{Model: m}
	n := len(m.Sections)
	w.at.Form = m.Form
	w.at.Header = ehdr.Plain(m.Form)
	w.at.Sections = make([]shdr.Section, n)
	w.at.Segments = make([]phdr.Segment, len(m.Segments))
	w.at.Names, w.at.Far, w.at.Tables = make([][]uint64, n), make([][]bool, n), make([]string, n)
	for i, x := range m.Sections {
		w.at.Names[i], w.at.Far[i] = make([]uint64, len(x.Syms)), make([]bool, len(x.Syms))
	}
	return w
}

// buildTables builds all tables of names, and notes where each name is.
func (w *writer) buildTables() api.Errno {
	for i, isTable := range w.Tables() {
		if !isTable {
			continue
		}
		if e := w.buildTable(i); e != api.OK {
			return e
		}
	}
	return api.OK
}

func (w *writer) buildTable(i int) api.Errno {
	l := owners(w.Model, i)
	table, at, e := strtab.Build(texts(w.Model, l)...)
	if e != api.OK {
		return e
	}
	w.at.Tables[i] = table
	for n, x := range l {
		if x.symbol < 0 {
			w.at.Sections[x.section].Name = at[n]
		} else {
			w.at.Names[x.section][x.symbol] = at[n]
		}
	}
	return api.OK
}

// layParts gives all parts of the file their positions, in order.
func (w *writer) layParts() {
	h, word := &w.at.Header, uint64(w.Word())
	h.Shstrndx = w.Names
	w.end = h.Ehsize
	if n := uint64(len(w.Segments)); n > 0 {
		h.Phnum, h.Phoff = n, w.lay(n*h.Phentsize, word)
	}
	// The first section has no bytes, and its header no position.
	for i := 1; i < len(w.Sections); i++ {
		w.layBody(i)
	}
	for i, x := range w.Segments {
		y := &w.at.Segments[i]
		y.FileSize = uint64(len(x.Data))
		y.Offset = w.lay(y.FileSize, 0)
	}
	if n := uint64(len(w.Sections)); n > 0 {
		h.Shnum, h.Shoff = n, w.lay(n*h.Shentsize, word)
	}
	w.at.Size = int(w.end)
}

// layBody gives section i its position. One without bytes in the file has one,
// too.
func (w *writer) layBody(i int) {
	x, y := &w.Sections[i], &w.at.Sections[i]
	y.Size, _ = bodies.Size(w.Model, i)
	if w.at.Tables[i] != "" {
		y.Size = uint64(len(w.at.Tables[i]))
	}
	n := y.Size
	if x.Type == shdr.NoBits {
		n = 0
	}
	y.Offset = w.lay(n, x.Align)
}

// lay returns the position of the next part of the file, which has n bytes.
func (w *writer) lay(n, align uint64) uint64 {
	at, ok := span.Round(w.end, align)
	end, fits := span.Add(at, n)
	if !ok || !fits || end > api.MaxFile {
		w.long = true
		return 0
	}
	w.end = end
	return at
}
