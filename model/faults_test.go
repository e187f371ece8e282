package model

import (
	"testing"

	"graver/api"
	"graver/class"
	"graver/relrec"
	"graver/shdr"
	"graver/symrec"
)

// fault that whole can be given, and the error that it has then.
type fault struct {
	name  string
	want  api.Errno
	spoil func(d *draft)
}

// faults has what can be wrong with whole, in the order in which it is told.
// The faults of one section do not undo each other if the later one is given
// first.
func faults() []fault {
	var l []fault
	add := func(i int, name string, want api.Errno, spoil func(d *draft, x *part)) {
		l = append(l, fault{name, want, func(d *draft) { spoil(d, &d.parts[i]) }})
	}
	link := func(i int, name string, to uint64) {
		add(i, name, api.ErrLink, func(_ *draft, x *part) { x.Link = to })
	}
	info := func(i int, name string, n uint64) {
		add(i, name, api.ErrInfo, func(_ *draft, x *part) { x.Info = n })
	}
	sizes := func(i int) {
		add(i, "EntSize", api.ErrSize, func(_ *draft, x *part) { x.EntSize++ })
		add(i, "EntSize 0", api.ErrSize, func(_ *draft, x *part) { x.EntSize = 0 })
		add(i, "a part of an item", api.ErrSize, func(_ *draft, x *part) { x.more = "x" })
	}
	others := func(i int) {
		add(i, "InfoLink to none", api.ErrInfo, func(_ *draft, x *part) { x.Flags |= shdr.InfoLink; x.Info = sections })
		link(i, "link to a table of names", shnames)
	}
	symbol := func(k int, name string, want api.Errno, spoil func(d *draft, y *symrec.Symbol)) {
		add(symtab, name, want, func(d *draft, x *part) { spoil(d, &x.syms[k]) })
	}

	add(other, "a fault of layer 11", api.ErrAlign, func(_ *draft, x *part) { x.Align = 3 })
	add(other, "a fault of layer 12", api.ErrName, func(_ *draft, x *part) { x.Name = 1000 })
	link(shnames, "link to none", sections)
	others(shnames)
	link(symnames, "link to none", 1<<32-1)
	others(symnames)

	link(symtab, "link to none", sections)
	sizes(symtab)
	for _, to := range []uint64{null, symtab, indices, text, bss, dynsym, empty, other} {
		link(symtab, "link to no string table", to)
	}
	add(symtab, "no symbols", api.ErrSymbol, func(_ *draft, x *part) { x.syms = nil })
	for _, first := range []symrec.Symbol{{Name: 1}, {Name: 1000}, {Info: 1}, {Other: 1}, {Shndx: 1}, {Shndx: 0xfff1}, {Value: 1}, {Size: 1}} {
		symbol(0, "first symbol", api.ErrSymbol, func(_ *draft, y *symrec.Symbol) { *y = first })
	}
	add(symnames, "first symbol has a name", api.ErrSymbol, func(_ *draft, x *part) { x.body = "x" + x.body[1:] })
	add(indices, "first symbol has a number", api.ErrSymbol, func(_ *draft, x *part) { x.numbers[0] = 1 })
	for k := 1; k <= 2; k++ {
		symbol(k, "symbol without a name", api.ErrName, func(d *draft, y *symrec.Symbol) { y.Name = uint64(len(d.parts[symnames].body)) })
		for _, n := range []uint64{sections, 0xfeff} {
			symbol(k, "symbol at no section", api.ErrIndex, func(_ *draft, y *symrec.Symbol) { y.Shndx = n })
		}
		add(indices, "symbol with a number", api.ErrSymbol, func(_ *draft, x *part) { x.numbers[k] = 1 })
	}
	symbol(3, "far symbol without a name", api.ErrName, func(_ *draft, y *symrec.Symbol) { y.Name = 1<<32 - 1 })
	add(indices, "no number for a far symbol", api.ErrSymbol, func(_ *draft, x *part) { x.numbers = x.numbers[:3] })
	for _, n := range []uint64{sections, 0xff00, 0xfff1, 1<<32 - 1} {
		add(indices, "far symbol at no section", api.ErrIndex, func(_ *draft, x *part) { x.numbers[3] = n })
	}
	add(indices, "last symbol with a number", api.ErrSymbol, func(_ *draft, x *part) { x.numbers[5] = 1 << 31 })
	for _, n := range []uint64{0, 2, 4, 6, 7} {
		info(symtab, "not the number of local symbols", n)
	}
	symbol(4, "local symbol behind another one", api.ErrInfo, func(_ *draft, y *symrec.Symbol) { y.Info = 0x01 })
	symbol(5, "local symbol behind another one", api.ErrInfo, func(_ *draft, y *symrec.Symbol) { y.Info = 0x0f })

	add(indices, "EntSize", api.ErrSize, func(_ *draft, x *part) { x.EntSize = 0 })
	add(indices, "a number too many", api.ErrSize, func(_ *draft, x *part) { x.numbers = append(x.numbers, 0) })
	add(indices, "a part of a number", api.ErrSize, func(_ *draft, x *part) { x.more = "\x00" })
	for _, i := range []int{text, bss} {
		link(i, "link to none", sections)
		others(i)
		link(i, "link to a table of names", symnames)
	}
	relocs := func(i int) {
		link(i, "link to none", sections)
		sizes(i)
		for _, to := range []uint64{shnames, symnames, indices, text, rel, group, dynstr, empty, other} {
			link(i, "link to no symbols", to)
		}
		info(i, "Info", sections)
		info(i, "Info", 1<<32-1)
	}
	relocs(rel)
	add(rel, "no such symbol", api.ErrReloc, func(_ *draft, x *part) { x.relocs[1].Sym = 6 })
	add(rel, "no symbols at all", api.ErrReloc, func(_ *draft, x *part) { x.Link = 0 })
	relocs(rela)
	add(rela, "no such symbol", api.ErrReloc, func(_ *draft, x *part) { x.relocs[0].Sym = 2 })
	add(rela, "no such symbol", api.ErrReloc, func(_ *draft, x *part) { x.relocs[1].Sym = 1<<24 - 1 })
	add(rela, "no symbols at all", api.ErrReloc, func(_ *draft, x *part) { x.Link = 0 })

	link(group, "link to none", sections)
	sizes(group)
	add(group, "no numbers", api.ErrSize, func(_ *draft, x *part) { x.numbers = nil })
	for _, to := range []uint64{null, shnames, symnames, indices, text, group, dynsym, other} {
		link(group, "link to no symbols", to)
	}
	info(group, "Info", 6)
	info(group, "Info", 1<<32-1)
	for k := 1; k <= 3; k++ {
		for _, n := range []uint64{0, group, sections, 1<<32 - 1} {
			add(group, "member", api.ErrGroup, func(_ *draft, x *part) { x.numbers[k] = n })
		}
	}
	for _, i := range []int{dynsym, dynstr, empty, other} {
		link(i, "link to none", sections)
		others(i)
	}
	return l
}

// P13.1: each fault alone, and each two together, of which the first counts.
func TestParseTellsTheFirstFault(t *testing.T) {
	l := faults()
	for _, f := range forms {
		for k, x := range l {
			d := whole(f)
			x.spoil(d)
			d.bad(t, x.name, x.want)
			for _, y := range l[k+1:] {
				d := whole(f)
				y.spoil(d)
				x.spoil(d)
				d.bad(t, x.name+" and "+y.name, x.want)
			}
		}
	}
}

// P13.1: what is no fault, though nearly one.
func TestParseEdges(t *testing.T) {
	for _, f := range forms {
		for name, change := range map[string]func(d *draft){
			"link to the last section":     func(d *draft) { d.parts[text].Link = other },
			"link to itself":               func(d *draft) { d.parts[text].Link = text },
			"info that is none":            func(d *draft) { d.parts[text].Info = 1<<32 - 1 },
			"InfoLink to the last section": func(d *draft) { d.parts[text].Flags |= shdr.InfoLink; d.parts[text].Info = other },
			"InfoLink to none":             func(d *draft) { d.parts[text].Flags |= shdr.InfoLink; d.parts[text].Info = 0 },
			"EntSize of any bytes":         func(d *draft) { d.parts[text].EntSize = 1<<32 - 1 },
			"relocations for the last section": func(d *draft) {
				d.parts[rel].Info, d.parts[rela].Info = other, other
			},
			"relocations of no table": func(d *draft) {
				d.parts[rel].Link, d.parts[rel].relocs = 0, make([]relrec.Reloc, 2)
				d.parts[rela].Link, d.parts[rela].relocs = 0, []relrec.Reloc{{Offset: 1, Type: 2, Addend: 3}}
			},
			"no relocations": func(d *draft) {
				d.parts[rel].relocs, d.parts[rela].relocs = nil, nil
				d.parts[rela].Link = 0
			},
			"relocations with the other one's symbols": func(d *draft) {
				d.parts[rel].Link, d.parts[rela].Link = dynsym, symtab
				d.parts[rel].relocs[0].Sym, d.parts[rela].relocs[0].Sym = 1, 5
			},
			"a group of nothing":                 func(d *draft) { d.parts[group].numbers = []uint64{group} },
			"a group of all symbols' last one":   func(d *draft) { d.parts[group].Info = 5 },
			"a group of symbol 0":                func(d *draft) { d.parts[group].Info = 0 },
			"a symbol at the last section":       func(d *draft) { d.parts[symtab].syms[1].Shndx = other },
			"a far symbol at no section":         func(d *draft) { d.parts[indices].numbers[3] = 0 },
			"special symbols at both ends":       func(d *draft) { d.parts[symtab].syms[1].Shndx, d.parts[symtab].syms[2].Shndx = 0xff00, 0xfffe },
			"a name that begins at the last one": func(d *draft) { d.parts[symtab].syms[1].Name = uint64(len(d.parts[symnames].body)) - 1 },
			"no symbol but local ones": func(d *draft) {
				x := &d.parts[symtab]
				x.syms[3].Info, x.syms[4].Info, x.syms[5].Info, x.Info = 0, 1, 2, 6
			},
			"one local symbol": func(d *draft) {
				d.parts[symtab].syms[1].Info, d.parts[symtab].syms[2].Info, d.parts[symtab].Info = 0x10, 0x20, 1
			},
			"the bytes of a DynSym":   func(d *draft) { d.parts[dynsym].syms[0] = symrec.Symbol{Name: 1000, Shndx: 0xffff} },
			"an Info of a DynSym":     func(d *draft) { d.parts[dynsym].Info = 1<<32 - 1 },
			"a string table is right": func(d *draft) { d.parts[dynstr].body = "no table" },
		} {
			d := whole(f)
			change(d)
			d.fine(t, name)
		}
	}
}

// near is whole without a symbol that needs the section of indices.
func near(f class.Form) *draft {
	d := whole(f)
	d.parts[symtab].syms[3].Shndx = bss
	d.parts[indices].numbers[3] = 0
	return d
}

// P13.1: sections of indices.
func TestParseIndices(t *testing.T) {
	for _, f := range forms {
		d := near(f)
		d.fine(t, "indices without need")
		d.parts[indices].numbers = d.parts[indices].numbers[:5]
		d.bad(t, "a number is missing, and not needed", api.ErrSize)
		d.parts[indices].numbers = nil
		d.bad(t, "all numbers are missing", api.ErrSize)

		for _, to := range []uint64{null, shnames, text, indices, dynsym, other, sections, 1<<32 - 1} {
			d := near(f)
			d.parts[indices].Link = to
			d.bad(t, "indices of no table", api.ErrLink)
			d.parts[indices].more = "more"
			d.bad(t, "indices of no table and a wrong size", api.ErrLink)
			d.parts[indices].EntSize = 8
			want := api.ErrSize
			if to >= sections {
				want = api.ErrLink
			}
			d.bad(t, "indices of no table and a wrong EntSize", want)

			// Without them, the symbol that is far has no number.
			d = whole(f)
			d.parts[indices].Link = to
			d.bad(t, "a far symbol without indices", api.ErrSymbol)
		}

		d = near(f)
		d.parts[other] = d.parts[indices]
		d.bad(t, "indices for the second time", api.ErrLink)
		d.parts[other].numbers = nil
		d.bad(t, "indices for the second time, of a wrong size", api.ErrLink)
		d.parts[other].EntSize = 2
		d.bad(t, "indices for the second time, of a wrong EntSize", api.ErrSize)

		d = whole(f)
		d.parts[other] = d.parts[indices]
		d.parts[indices].numbers = d.parts[indices].numbers[:3]
		d.bad(t, "the second indices alone have the number", api.ErrSymbol)
		d.parts[shnames], d.head.Shstrndx = d.parts[other], 0
		for i := range d.parts {
			d.parts[i].Name = 0
		}
		d.parts[shnames].numbers = append(d.parts[shnames].numbers, 1)
		d.bad(t, "indices before their table, of a wrong size", api.ErrSize)
		d.parts[symtab].syms[1].Name = 1000
		d.parts[shnames].numbers = d.parts[shnames].numbers[:6]
		d.bad(t, "indices before their table, which is wrong", api.ErrName)
	}
}

// P13.1: a table has as many symbols as its bytes have whole ones, whatever
// else is wrong with it, for the sections in front of it.
func TestParseCountsSymbolsOfWrongTables(t *testing.T) {
	for _, f := range forms {
		for sym, want := range map[uint64]api.Errno{1: api.ErrSize, 2: api.ErrReloc} {
			d := &draft{Ident: class.Ident{Form: f}, parts: []part{
				{},
				{Section: shdr.Section{Type: shdr.Rel, Link: 2, EntSize: uint64(relrec.Size(f, false))}, relocs: []relrec.Reloc{{Sym: sym}}},
				{Section: shdr.Section{Type: shdr.SymTab, Link: 3, EntSize: 1}, syms: make([]symrec.Symbol, 2), more: "fifteen bytes.."},
				{Section: shdr.Section{Type: shdr.StrTab}, body: "\x00"},
			}}
			d.bad(t, "symbols of a wrong table", want)
		}
	}
}

// P13.1: the section to which a table of symbols links is a table of names for
// the sections in front of it, too, and whatever else is wrong.
func TestParseTablesOfNamesOfWrongTables(t *testing.T) {
	for _, f := range forms {
		for to, want := range map[uint64]api.Errno{0: api.ErrSize, 1: api.ErrSize, 3: api.ErrLink} {
			d := &draft{Ident: class.Ident{Form: f}, parts: []part{
				{},
				{Section: shdr.Section{Type: shdr.ProgBits, Link: to}},
				{Section: shdr.Section{Type: shdr.SymTab, Link: 3, EntSize: 1}},
				{Section: shdr.Section{Type: shdr.StrTab}, body: "\x00"},
			}}
			d.bad(t, "a link to the names of a wrong table", want)
		}
	}
}

// P13.1: where a table of symbols has the Link 0, sections with the Link 0 have
// no error.
func TestParseLinkOfNone(t *testing.T) {
	for _, f := range forms {
		for size, want := range map[uint64]api.Errno{1: api.ErrSize, uint64(symrec.Size(f)): api.ErrLink} {
			d := &draft{Ident: class.Ident{Form: f}, parts: []part{
				{},
				{Section: shdr.Section{Type: shdr.ProgBits, Flags: shdr.InfoLink, Info: 2}},
				{Section: shdr.Section{Type: shdr.SymTab, EntSize: size}, syms: make([]symrec.Symbol, 1)},
			}}
			d.bad(t, "a table of symbols that has no names", want)
		}
	}
}

// P13.1: the names of symbols have to be in a string table that is not empty.
func TestParseEmptyNames(t *testing.T) {
	for _, f := range forms {
		for body, want := range map[string]api.Errno{"": api.ErrName, "x": api.ErrName, "x\x00": api.ErrSymbol, "\x00": api.OK, "\x00x": api.OK} {
			d := whole(f)
			d.parts = d.parts[:symtab+1]
			d.parts[symnames].body = body
			d.parts[symtab].syms = d.parts[symtab].syms[:1]
			d.parts[symtab].Info = 1
			if want == api.OK {
				d.fine(t, body)
			} else {
				d.bad(t, body, want)
			}
		}
	}
}
