package model

import (
	"testing"

	"graver/api"
	"graver/class"
	"graver/relrec"
	"graver/shdr"
	"graver/strtab"
	"graver/symrec"
)

// model of whole, told in full.
func wholeModel(f class.Form) Model {
	symbols := uint64(symrec.Size(f))
	return Model{
		Ident: class.Ident{Form: f, ABI: 3, Version: 4}, Type: 1, Machine: 62, Entry: 0x1001, Flags: 9, Names: shnames,
		Sections: []Section{
			{},
			{Name: ".shstrtab", Type: 3},
			{Name: ".strtab", Type: 3, Align: 1},
			{Name: ".symtab", Type: 2, Link: symnames, Info: 3, Align: 8, EntSize: symbols, Syms: []Symbol{
				{},
				{Name: "one", Info: 0x03, Other: 2, Value: 1, Size: 2, Sect: text},
				{Name: "two", Info: 0x0f, Other: 255, Value: 1<<32 - 1, Size: 1<<32 - 2, Sect: 0xfff1, Special: true},
				{Name: "three", Info: 0x12, Value: 3, Sect: bss},
				{Info: 0x20},
				{Name: "ree", Info: 0xf1, Sect: 0xfff2, Special: true},
			}},
			{Name: ".symtab_shndx", Type: 18, Link: symtab, EntSize: 4},
			{Name: ".text", Type: 1, Flags: 6, Addr: 0x1000, Align: 16, Data: "some code"},
			{Name: ".bss", Type: 8, Flags: 3, Addr: 0x2000, Size: 1<<32 - 1, Align: 32},
			{Name: ".rel.text", Type: 9, Flags: 64, Link: symtab, Info: text, EntSize: uint64(2 * f.Word()), Relocs: []relrec.Reloc{
				{Offset: 1, Sym: 5, Type: 255}, {Offset: 1<<32 - 1},
			}},
			{Name: ".rela.text", Type: 4, Link: dynsym, EntSize: uint64(3 * f.Word()), Relocs: []relrec.Reloc{
				{Offset: 4, Sym: 1, Type: 7, Addend: 1<<32 - 1}, {Offset: 5, Type: 8},
			}},
			{Name: ".group", Type: 17, Link: symtab, Info: 3, EntSize: 4, Members: []uint64{1<<32 - 1, text, other, text}},
			{Name: ".dynsym", Type: 11, Link: dynstr, Info: 1 << 31, EntSize: 5, Data: string(make([]byte, 2*symbols)) + "a half"},
			{Name: ".dynstr", Type: 3, Link: text, Info: 99, Data: "\x00dynamic\x00"},
			{Flags: 1, Addr: 2, Link: 4, Info: 5, Align: 8, EntSize: 7},
			{Name: ".text", Type: 1<<32 - 1, Flags: 1<<32 - 1, Info: other, EntSize: 1<<32 - 1, Data: "\x01\x00other"},
		},
		Segments: []Segment{
			{Type: 1, Flags: 5, VAddr: 3, PAddr: 4, MemSize: 2, Align: 3, Data: "ELF"},
			{Type: 1<<32 - 1},
		},
	}
}

// P13.1
func TestParseKeepsWhatEachTypeHas(t *testing.T) {
	for _, f := range forms {
		whole(f).good(t, wholeModel(f))
	}
}

// P13.1: numbers that only a wide form has.
func TestParseKeepsWideNumbers(t *testing.T) {
	const most = 1<<64 - 1
	for _, f := range forms {
		if !f.Wide {
			continue
		}
		d, want := whole(f), wholeModel(f)
		d.head.Entry, want.Entry = most, most
		for _, i := range []int{text, bss, symtab, other} {
			x, y := &d.parts[i], &want.Sections[i]
			x.Addr, x.Flags, x.Align, y.Addr, y.Flags, y.Align = most, 1<<63, 1<<63, most, 1<<63, 1<<63
		}
		d.parts[bss].Size, want.Sections[bss].Size = most, most
		d.parts[symtab].syms[5].Value, want.Sections[symtab].Syms[5].Value = most, most
		d.parts[symtab].syms[5].Size, want.Sections[symtab].Syms[5].Size = most-1, most-1
		for i, x := range []relrec.Reloc{{Offset: most, Sym: 1, Type: 1<<32 - 1, Addend: most}, {Offset: 1, Sym: 0, Type: 1 << 31, Addend: 1 << 63}} {
			d.parts[rela].relocs[i], want.Sections[rela].Relocs[i] = x, x
		}
		d.segments[1].VAddr, d.segments[1].PAddr, d.segments[1].MemSize, d.segments[1].Align = most, most-1, most-2, most-3
		want.Segments[1].VAddr, want.Segments[1].PAddr, want.Segments[1].MemSize, want.Segments[1].Align = most, most-1, most-2, most-3
		d.good(t, want)
	}
}

// P13.1: the example of the chapter.
func TestParseWithoutSections(t *testing.T) {
	for _, f := range forms {
		d := &draft{Ident: class.Ident{Form: f, ABI: 5, Pad: "1234567"}}
		d.head.Type, d.head.Machine, d.head.Flags = 2, 3, 4
		d.good(t, Model{Ident: class.Ident{Form: f, ABI: 5}, Type: 2, Machine: 3, Flags: 4})
	}
}

// P13.1: without a table of names, the names are empty.
func TestParseWithoutNames(t *testing.T) {
	for _, f := range forms {
		d, want := whole(f), wholeModel(f)
		d.head.Shstrndx, want.Names = 0, 0
		for i := range d.parts {
			d.parts[i].Name, want.Sections[i].Name = 0, ""
		}
		// What was the table of names is a string table like any other one.
		want.Sections[shnames].Data = d.parts[shnames].body
		d.good(t, want)

		d.parts[other].Link = shnames
		d.fine(t, "a link to what is no table of names")
		d.parts[other].Name = 1
		d.bad(t, "a name without a table", api.ErrName)
	}
}

// P13.1: the first section is the zero one, whatever its header tells; what it
// tells of the file counts.
func TestParseFirstSection(t *testing.T) {
	for _, f := range forms {
		d := whole(f)
		d.parts[0].Section = shdr.Section{Name: 1, Flags: 1<<32 - 1, Addr: 5, Size: 7, Link: 99, Info: 99, Align: 16, EntSize: 3}
		d.good(t, wholeModel(f))

		d.head.Shstrndx = 0xffff
		d.parts[0].Link = shnames
		d.good(t, wholeModel(f))

		want := wholeModel(f)
		want.Names = dynstr
		want.Sections[dynstr].Data, want.Sections[shnames].Data = "", d.parts[shnames].body
		want.Sections[dynsym].Link, d.parts[dynsym].Link = 0, 0
		for i := range d.parts {
			d.parts[i].Name = 0
			want.Sections[i].Name = ""
		}
		d.parts[0].Link = dynstr
		d.parts[0].Name = 3
		d.parts[other].Name = 1
		want.Sections[other].Name = "dynamic"
		d.good(t, want)
	}
}

// P13.1: one table of names can have those of sections and of symbols.
func TestParseSharedNames(t *testing.T) {
	for _, f := range forms {
		d, want := whole(f), wholeModel(f)
		d.parts[symtab].Link, want.Sections[symtab].Link = shnames, shnames
		want.Sections[symnames].Data = d.parts[symnames].body
		l := want.Sections[symtab].Syms
		for k := range d.parts[symtab].syms {
			at := d.parts[symtab].syms[k].Name
			l[k].Name, _ = strtab.Text(d.parts[shnames].body, at)
		}
		d.good(t, want)
	}
}

// P13.1: two tables of symbols, each with indices of its own, the indices in
// front of them.
func TestParseTwoTables(t *testing.T) {
	for _, f := range forms {
		d, want := whole(f), wholeModel(f)
		d.parts[text], want.Sections[text] = d.parts[indices], want.Sections[indices]
		d.parts[text].Link, want.Sections[text].Link = other, other
		d.parts[other], want.Sections[other] = d.parts[symtab], want.Sections[symtab]
		d.parts[text].numbers = []uint64{0, 0, 0, other, 0, 0}
		l := append([]Symbol{}, want.Sections[symtab].Syms...)
		l[3].Sect = other
		want.Sections[other].Syms = l
		d.good(t, want)
	}
}

// P13.1
func TestParseTooMany(t *testing.T) {
	for _, f := range forms {
		d := whole(f)
		d.parts = d.parts[:rela+1]
		d.parts[rela].Link, d.parts[rela].relocs = 0, make([]relrec.Reloc, api.MaxRelocs)
		d.fine(t, "the most relocations")
		d.parts[rela].relocs = append(d.parts[rela].relocs, relrec.Reloc{})
		d.bad(t, "too many relocations", api.ErrCount)

		d = whole(f)
		d.parts[rel].relocs = make([]relrec.Reloc, api.MaxRelocs)
		d.fine(t, "the most relocations")
		d.parts[rel].relocs = append(d.parts[rel].relocs, relrec.Reloc{Sym: 99})
		d.parts[rel].Link, d.parts[rel].Info = text, 99
		d.bad(t, "too many relocations", api.ErrCount)
		d.parts[rel].EntSize++
		d.bad(t, "too many relocations of a wrong size", api.ErrSize)

		d = whole(f)
		d.parts[symtab].syms = make([]symrec.Symbol, api.MaxSymbols)
		d.parts[symtab].Info = api.MaxSymbols
		d.parts[indices].numbers = make([]uint64, api.MaxSymbols)
		d.fine(t, "the most symbols")
		d.parts[symtab].syms = append(d.parts[symtab].syms, symrec.Symbol{})
		d.parts[symtab].Link = text
		d.parts[symtab].syms[0].Value = 1
		d.bad(t, "too many symbols", api.ErrCount)
		d.parts[symtab].EntSize++
		d.bad(t, "too many symbols of a wrong size", api.ErrSize)
	}
}
