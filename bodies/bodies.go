// Package bodies tells how many bytes the bodies of sections have (layer 15)
// before there are any: what a model has of them is enough to know that.
package bodies

import (
	"graver/model"
	"graver/rules"
	"graver/shdr"
)

// Size returns how many bytes the body of section i has, or, for NoBits, how
// many it has in memory; false if it is one of indices that links to no table
// of symbols. A table of names has no bytes of its own in a model.
func Size(m model.Model, i int) (uint64, bool) {
	x := &m.Sections[i]
	item := rules.ItemSize(m.Form, x.Type)
	switch x.Type {
	case shdr.Null:
		return 0, true
	case shdr.NoBits:
		return x.Size, true
	case shdr.SymTab:
		return uint64(len(x.Syms)) * item, true
	case shdr.Rel, shdr.Rela:
		return uint64(len(x.Relocs)) * item, true
	case shdr.Group:
		return uint64(len(x.Members)) * item, true
	case shdr.Indices:
		l, ok := Symbols(m, i)
		return uint64(len(l)) * item, ok
	}
	return uint64(len(x.Data)), true
}

// Symbols returns those of the table to which section i links; false if it
// links to none.
func Symbols(m model.Model, i int) ([]model.Symbol, bool) {
	k := m.Sections[i].Link
	if k >= uint64(len(m.Sections)) || m.Sections[k].Type != shdr.SymTab {
		return nil, false
	}
	return m.Sections[k].Syms, true
}
