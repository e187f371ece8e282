package model

import (
	"graver/api"
	"graver/names"
	"graver/symrec"
)

// symbols of a table, as they are read: the table of their names, and the
// numbers of the section of indices that links to them.
type symbols struct {
	*parser
	names string
	far   []uint64
}

// readSymbols makes the model of those of section i.
func (p *parser) readSymbols(i int) api.Errno {
	x := &p.out.Sections[i]
	table, e := names.Table(p.File, p.text, x.Link)
	if e != api.OK {
		return e
	}
	t := symbols{parser: p, names: table}
	if k, ok := p.out.Indices(i); ok {
		t.far = p.numbers(k)
	}
	data := p.Data(p.text, i)
	infos := make([]uint64, p.heads[i].Items)
	x.Syms = make([]Symbol, len(infos))
	for k := range infos {
		y, _ := symrec.Read(p.Form, data[k*symrec.Size(p.Form):])
		if x.Syms[k], e = t.read(k, y); e != api.OK {
			return e
		}
		infos[k] = y.Info
	}
	return p.rules.Locals(i, infos...)
}

// read returns the symbol k, whose record is y.
func (t symbols) read(k int, y symrec.Symbol) (Symbol, api.Errno) {
	if k == 0 && y != (symrec.Symbol{}) {
		return Symbol{}, api.ErrSymbol
	}
	l, e := names.All(t.names, y.Name)
	if e != api.OK {
		return Symbol{}, e
	}
	// The text at 0 may be no empty one. A first symbol with a name is not all
	// zeros, either: a model that has one is not valid.
	if k == 0 && l[0] != "" {
		return Symbol{}, api.ErrSymbol
	}
	sect, special, e := t.locate(k, y.Shndx)
	if e != api.OK {
		return Symbol{}, e
	}
	return Symbol{
		Name: l[0], Info: y.Info, Other: y.Other, Value: y.Value, Size: y.Size,
		Sect: sect, Special: special,
	}, api.OK
}

// locate returns where the symbol k is, whose record has this Shndx: the Sect
// of the symbol, and whether it is Special.
func (t symbols) locate(k int, shndx uint64) (uint64, bool, api.Errno) {
	var number uint64
	if k < len(t.far) {
		number = t.far[k]
	}
	sect, special := shndx, shndx >= symrec.Reserve
	if shndx == symrec.XIndex {
		if k >= len(t.far) {
			return 0, false, api.ErrSymbol
		}
		sect, special, number = number, false, 0
	}
	if !special && !t.rules.IsSection(sect) {
		return 0, false, api.ErrIndex
	}
	// Only a symbol that has the Shndx XIndex has a number among the indices.
	if number != 0 {
		return 0, false, api.ErrSymbol
	}
	return sect, special, api.OK
}
