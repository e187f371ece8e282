package place

import (
	"strings"

	"graver/bodies"
	"graver/model"
	"graver/relrec"
	"graver/shdr"
	"graver/symrec"
)

// Body returns the bytes of section i, if its symbols have these Names, and far
// tells which of them are far (for one of indices: which of those of the table
// to which it links). They are none for a table of names: a model does not tell
// them. It returns false if there is no such section, a number does not fit, a
// Name or an element of far is missing, or indices link to no table.
func Body(m model.Model, i int, names []uint64, far []bool) (string, bool) {
	if i < 0 || i >= len(m.Sections) {
		return "", false
	}
	if m.Tables()[i] {
		return "", true
	}
	return body(m, i, names, far)
}

// body is Body of a section that is no table of names.
func body(m model.Model, i int, names []uint64, far []bool) (string, bool) {
	x := &m.Sections[i]
	switch x.Type {
	case shdr.Null, shdr.NoBits:
		return "", true
	case shdr.SymTab:
		return symbolBytes(m, x.Syms, names, far)
	case shdr.Rel, shdr.Rela:
		return relrec.PutAll(m.Form, x.Type == shdr.Rela, x.Relocs...)
	case shdr.Group:
		return records(x.Members, func(_ int, n uint64) (string, bool) { return numberBytes(m, n) })
	case shdr.Indices:
		return indexBytes(m, i, far)
	}
	return x.Data, true
}

func symbolBytes(m model.Model, l []model.Symbol, names []uint64, far []bool) (string, bool) {
	if len(names) < len(l) || len(far) < len(l) {
		return "", false
	}
	return records(l, func(k int, x model.Symbol) (string, bool) {
		y := symrec.Symbol{Name: names[k], Info: x.Info, Other: x.Other, Shndx: x.Sect, Value: x.Value, Size: x.Size}
		if far[k] {
			y.Shndx = symrec.XIndex
		}
		return symrec.Put(m.Form, y)
	})
}

// indexBytes returns the numbers of section i: where the symbols are that are far.
func indexBytes(m model.Model, i int, far []bool) (string, bool) {
	l, ok := bodies.Symbols(m, i)
	if !ok || len(far) < len(l) {
		return "", false
	}
	return records(l, func(k int, x model.Symbol) (string, bool) {
		if far[k] {
			return numberBytes(m, x.Sect)
		}
		return numberBytes(m, 0)
	})
}

// numberBytes returns one of those of four bytes of which some sections consist.
func numberBytes(m model.Model, n uint64) (string, bool) { return m.Record([]int{4}, n) }

// records returns what put makes of each element of a list, one behind the
// other; false if it can't make something of one.
func records[T any](l []T, put func(i int, x T) (string, bool)) (string, bool) {
	var b strings.Builder
	for i, x := range l {
		s, ok := put(i, x)
		if !ok {
			return "", false
		}
		b.WriteString(s)
	}
	return b.String(), true
}
