package model

import (
	"graver/api"
	"graver/names"
	"graver/raw"
	"graver/relrec"
	"graver/rules"
	"graver/shdr"
)

// parser of a file: its raw tables, all its bytes, what the rules ask of its
// sections, and the model as far as it is known.
type parser struct {
	raw.File
	text   string
	heads  []rules.Section
	rules  *rules.Rules
	out    Model
	tables []bool
}

// Parse returns the model of the file whose bytes are s.
func Parse(s string) (Model, api.Errno) {
	f, e := raw.Parse(s)
	if e != api.OK {
		return Model{}, e
	}
	l, e := names.Sections(f, s)
	if e != api.OK {
		return Model{}, e
	}
	p := parser{File: f, text: s}
	p.readHeaders(l)
	p.makeRules()
	// The header of the first section tells numbers of the whole file: it has
	// no place in the model, and is bound by no rule.
	for i := 1; i < len(p.Sections); i++ {
		if e := p.readSection(i); e != api.OK {
			return Model{}, e
		}
	}
	return p.out, api.OK
}

// readHeaders makes the model of all headers, and of the segments.
func (p *parser) readHeaders(l []string) {
	h := p.Header
	p.out = Model{
		Ident: p.Ident, Type: h.Type, Machine: h.Machine, Entry: h.Entry, Flags: h.Flags, Names: p.Names,
		Sections: make([]Section, len(p.Sections)),
		Segments: make([]Segment, len(p.Segments)),
	}
	p.out.Pad = ""
	for i, x := range p.Sections {
		if i > 0 {
			p.out.Sections[i] = Section{
				Name: l[i], Type: x.Type, Flags: x.Flags, Addr: x.Addr,
				Link: x.Link, Info: x.Info, Align: x.Align, EntSize: x.EntSize,
			}
		}
	}
	for i, x := range p.Segments {
		p.out.Segments[i] = Segment{
			Type: x.Type, Flags: x.Flags, VAddr: x.VAddr, PAddr: x.PAddr,
			MemSize: x.MemSize, Align: x.Align, Data: p.Image(p.text, i),
		}
	}
}

func (p *parser) makeRules() {
	p.tables = p.out.Tables()
	p.heads = make([]rules.Section, len(p.Sections))
	for i, x := range p.Sections {
		size := rules.ItemSize(p.Form, x.Type)
		p.heads[i] = rules.Section{
			Type: x.Type, Flags: x.Flags, Link: x.Link, Info: x.Info, EntSize: x.EntSize,
			Items: x.Size / size, Left: x.Size % size,
		}
	}
	p.rules = rules.New(p.Form, p.tables, p.heads)
}

// readSection makes the model of what section i has beside its header.
func (p *parser) readSection(i int) api.Errno {
	if e := p.rules.Section(i); e != api.OK {
		return e
	}
	x := &p.out.Sections[i]
	switch x.Type {
	case shdr.SymTab:
		return p.readSymbols(i)
	case shdr.Rel, shdr.Rela:
		x.Relocs, _ = relrec.ReadAll(p.Form, x.Type == shdr.Rela, p.Data(p.text, i))
		return p.rules.Relocs(i, x.Relocs...)
	case shdr.Group:
		x.Members = p.numbers(i)
		return p.rules.Members(i, x.Members...)
	case shdr.Indices:
		return p.checkIndices(i)
	case shdr.NoBits:
		x.Size = p.Sections[i].Size
	default:
		if !p.tables[i] {
			x.Data = p.Data(p.text, i)
		}
	}
	return api.OK
}

// checkIndices returns ErrSize if section i does not have one number for each
// symbol of the table to which it links.
func (p *parser) checkIndices(i int) api.Errno {
	x := p.heads[i]
	if x.Left != 0 || x.Items != p.heads[x.Link].Items {
		return api.ErrSize
	}
	return api.OK
}

// numbers returns those of four bytes of which section i consists.
func (p *parser) numbers(i int) []uint64 {
	r := p.Read(p.Data(p.text, i), 0)
	l := make([]uint64, p.heads[i].Items)
	for k := range l {
		l[k] = r.Next(4)
	}
	return l
}
