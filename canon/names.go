package canon

import (
	"graver/model"
	"graver/shdr"
)

// owner of a text of a table of names: a section, or a symbol of it.
type owner struct {
	section int
	symbol  int // -1 if the text is the name of the section
}

// owners returns those of the texts of the table of names i, in order.
func owners(m model.Model, i int) []owner {
	var l []owner
	if m.Names != 0 && m.Names == uint64(i) {
		for k := 1; k < len(m.Sections); k++ {
			l = append(l, owner{section: k, symbol: -1})
		}
	}
	for k := range m.Sections {
		x := &m.Sections[k]
		if x.Type != shdr.SymTab || x.Link != uint64(i) {
			continue
		}
		for n := range x.Syms {
			l = append(l, owner{section: k, symbol: n})
		}
	}
	return l
}

// texts returns those of their owners.
func texts(m model.Model, l []owner) []string {
	out := make([]string, len(l))
	for n, x := range l {
		y := &m.Sections[x.section]
		if out[n] = y.Name; x.symbol >= 0 {
			out[n] = y.Syms[x.symbol].Name
		}
	}
	return out
}
