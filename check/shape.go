package check

import (
	"slices"

	"graver/model"
	"graver/relrec"
	"graver/shdr"
)

// Shape reports whether a section has nothing that its Type does not have;
// table tells whether it is a table of names.
func Shape(x model.Section, table bool) bool {
	is := func(types ...uint64) bool { return slices.Contains(types, x.Type) }
	hasAddend := func(y relrec.Reloc) bool { return y.Addend != 0 }
	isData := !table && !is(shdr.SymTab, shdr.Rel, shdr.Rela, shdr.Group, shdr.Indices, shdr.NoBits, shdr.Null)
	return (x.Size == 0 || is(shdr.NoBits)) &&
		(x.Data == "" || isData) &&
		(len(x.Syms) == 0 || is(shdr.SymTab)) &&
		(len(x.Relocs) == 0 || is(shdr.Rel, shdr.Rela)) &&
		(len(x.Members) == 0 || is(shdr.Group)) &&
		!(is(shdr.Rel) && slices.ContainsFunc(x.Relocs, hasAddend))
}

// isZero reports whether a section is the zero one.
func isZero(x model.Section) bool {
	header := [...]uint64{x.Type, x.Flags, x.Addr, x.Link, x.Info, x.Align, x.EntSize}
	// A section of the type Null has nothing beside its name and its header.
	return x.Name == "" && header == [7]uint64{} && Shape(x, false)
}
