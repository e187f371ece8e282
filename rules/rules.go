// Package rules has the rules for sections that are the same in a file (layer
// 13) and in a model (layer 14).
package rules

import (
	"slices"

	"graver/api"
	"graver/class"
	"graver/relrec"
	"graver/shdr"
	"graver/symrec"
)

// Section is what the rules ask of a section. Items is the number of its
// symbols, its relocations or its numbers, and Left that of the bytes behind
// the last one that are not a whole one.
type Section struct {
	Type, Flags, Link, Info, EntSize uint64
	Items, Left                      uint64
}

// Rules for the sections of one file or model.
type Rules struct {
	class.Form
	sections []Section
	tables   []bool
	indices  map[uint64]int
	checks   map[uint64]func(*Rules, int) api.Errno
}

// New returns the rules for these sections, with tables telling which of them
// are tables of names.
func New(f class.Form, tables []bool, sections []Section) *Rules {
	return &Rules{Form: f, sections: sections, tables: tables, indices: indices(sections), checks: checks()}
}

// indices returns the first section of indices that links to each section.
func indices(sections []Section) map[uint64]int {
	first := map[uint64]int{}
	for i, x := range slices.Backward(sections) {
		if x.Type == shdr.Indices {
			first[x.Link] = i
		}
	}
	return first
}

// checks returns the checks of the types that have one of their own.
func checks() map[uint64]func(*Rules, int) api.Errno {
	return map[uint64]func(*Rules, int) api.Errno{
		shdr.SymTab:  (*Rules).checkSymbols,
		shdr.Rel:     (*Rules).checkRelocs,
		shdr.Rela:    (*Rules).checkRelocs,
		shdr.Group:   (*Rules).checkGroup,
		shdr.Indices: (*Rules).checkIndices,
	}
}

// ItemSize returns the number of bytes of a symbol, a relocation or a number of
// a section of this type, and 1 for all other types.
func ItemSize(f class.Form, kind uint64) uint64 {
	switch kind {
	case shdr.SymTab, shdr.DynSym:
		return uint64(symrec.Size(f))
	case shdr.Rel, shdr.Rela:
		return uint64(relrec.Size(f, kind == shdr.Rela))
	case shdr.Group, shdr.Indices:
		return 4
	}
	return 1
}

// IsSection reports whether n is the index of a section.
func (r *Rules) IsSection(n uint64) bool { return n < uint64(len(r.sections)) }

// Section returns the first error that section i has whatever its items are:
// what they are is asked by the other methods.
func (r *Rules) Section(i int) api.Errno {
	x := r.sections[i]
	if !r.IsSection(x.Link) {
		return api.ErrLink
	}
	check, ok := r.checks[x.Type]
	if !ok {
		check = (*Rules).checkOther
	}
	return check(r, i)
}

func (r *Rules) checkSymbols(i int) api.Errno {
	x := r.sections[i]
	switch {
	case !r.isWhole(x):
		return api.ErrSize
	case x.Items > api.MaxSymbols:
		return api.ErrCount
	case !r.links(x, shdr.StrTab):
		return api.ErrLink
	case x.Items == 0:
		return api.ErrSymbol
	}
	return api.OK
}

func (r *Rules) checkRelocs(i int) api.Errno {
	x := r.sections[i]
	switch {
	case !r.isWhole(x):
		return api.ErrSize
	case x.Items > api.MaxRelocs:
		return api.ErrCount
	case x.Link != 0 && !r.links(x, shdr.SymTab, shdr.DynSym):
		return api.ErrLink
	case !r.IsSection(x.Info):
		return api.ErrInfo
	}
	return api.OK
}

func (r *Rules) checkGroup(i int) api.Errno {
	x := r.sections[i]
	switch {
	case !r.isWhole(x) || x.Items == 0:
		return api.ErrSize
	case !r.links(x, shdr.SymTab):
		return api.ErrLink
	case x.Info >= r.sections[x.Link].Items:
		return api.ErrInfo
	}
	return api.OK
}

func (r *Rules) checkIndices(i int) api.Errno {
	x := r.sections[i]
	switch {
	case x.EntSize != ItemSize(r.Form, x.Type):
		return api.ErrSize
	case !r.links(x, shdr.SymTab) || r.indices[x.Link] != i:
		return api.ErrLink
	}
	return api.OK
}

func (r *Rules) checkOther(i int) api.Errno {
	x := r.sections[i]
	switch {
	case x.Flags&shdr.InfoLink != 0 && !r.IsSection(x.Info):
		return api.ErrInfo
	case x.Link != 0 && r.tables[x.Link]:
		return api.ErrLink
	}
	return api.OK
}

// isWhole reports whether a section has nothing but items of the size that its
// type has.
func (r *Rules) isWhole(x Section) bool {
	return x.EntSize == ItemSize(r.Form, x.Type) && x.Left == 0
}

// links reports whether the section to which x links has one of these types.
func (r *Rules) links(x Section, types ...uint64) bool {
	return slices.Contains(types, r.sections[x.Link].Type)
}
