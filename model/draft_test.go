package model

import (
	"slices"
	"strings"
	"testing"

	"graver/api"
	"graver/class"
	"graver/ehdr"
	"graver/order"
	"graver/phdr"
	"graver/relrec"
	"graver/shdr"
	"graver/strtab"
	"graver/symrec"
)

var forms = []class.Form{
	{},
	{Wide: true},
	{Order: order.Order{Big: true}},
	{Order: order.Order{Big: true}, Wide: true},
}

// part of a draft: a section, whose bytes are its body, its symbols, its
// relocations and its numbers, one behind the other.
type part struct {
	name string
	shdr.Section
	body    string
	syms    []symrec.Symbol
	relocs  []relrec.Reloc
	numbers []uint64
	more    string
}

// draft of a file, in which each test changes what it is about.
type draft struct {
	class.Ident
	head     ehdr.Head
	parts    []part
	segments []phdr.Segment
}

// The indices of the sections of whole.
const (
	null = iota
	shnames
	symnames
	symtab
	indices
	text
	bss
	rel
	rela
	group
	dynsym
	dynstr
	empty
	other
	sections
)

// whole is a draft with a section of each type that the chapter tells of.
func whole(f class.Form) *draft {
	at := []uint64{0, 1, 5, 9}
	d := &draft{
		Ident: class.Ident{Form: f, ABI: 3, Version: 4, Pad: "padding"},
		head:  ehdr.Head{Type: 1, Machine: 62, Entry: 0x1001, Flags: 9, Shstrndx: shnames},
		parts: []part{
			{},
			{name: ".shstrtab", Section: shdr.Section{Type: shdr.StrTab}},
			{name: ".strtab", Section: shdr.Section{Type: shdr.StrTab, Align: 1}, body: "\x00one\x00two\x00three\x00"},
			{name: ".symtab", Section: shdr.Section{Type: shdr.SymTab, Link: symnames, Info: 3, Align: 8, EntSize: uint64(symrec.Size(f))}, syms: []symrec.Symbol{
				{},
				{Name: at[1], Info: 0x03, Other: 2, Shndx: text, Value: 1, Size: 2},
				{Name: at[2], Info: 0x0f, Other: 255, Shndx: symrec.Abs, Value: 1<<32 - 1, Size: 1<<32 - 2},
				{Name: at[3], Info: 0x12, Shndx: symrec.XIndex, Value: 3},
				{Name: 0, Info: 0x20, Shndx: symrec.Undef},
				{Name: at[3] + 2, Info: 0xf1, Shndx: symrec.Common},
			}},
			{name: ".symtab_shndx", Section: shdr.Section{Type: shdr.Indices, Link: symtab, EntSize: 4}, numbers: []uint64{0, 0, 0, bss, 0, 0}},
			{name: ".text", Section: shdr.Section{Type: shdr.ProgBits, Flags: shdr.Alloc | shdr.Exec, Addr: 0x1000, Align: 16}, body: "some code"},
			{name: ".bss", Section: shdr.Section{Type: shdr.NoBits, Flags: shdr.Alloc | shdr.Write, Addr: 0x2000, Size: 1<<32 - 1, Align: 32}},
			{name: ".rel.text", Section: shdr.Section{Type: shdr.Rel, Flags: shdr.InfoLink, Link: symtab, Info: text, EntSize: uint64(relrec.Size(f, false))}, relocs: []relrec.Reloc{
				{Offset: 1, Sym: 5, Type: 255}, {Offset: 1<<32 - 1, Sym: 0, Type: 0},
			}},
			{name: ".rela.text", Section: shdr.Section{Type: shdr.Rela, Link: dynsym, Info: 0, EntSize: uint64(relrec.Size(f, true))}, relocs: []relrec.Reloc{
				{Offset: 4, Sym: 1, Type: 7, Addend: 1<<32 - 1}, {Offset: 5, Sym: 0, Type: 8},
			}},
			{name: ".group", Section: shdr.Section{Type: shdr.Group, Link: symtab, Info: 3, EntSize: 4}, numbers: []uint64{1<<32 - 1, text, sections - 1, text}},
			{name: ".dynsym", Section: shdr.Section{Type: shdr.DynSym, Link: dynstr, Info: 1 << 31, EntSize: 5}, syms: make([]symrec.Symbol, 2), more: "a half"},
			{name: ".dynstr", Section: shdr.Section{Type: shdr.StrTab, Link: text, Info: 99}, body: "\x00dynamic\x00"},
			{name: "", Section: shdr.Section{Type: shdr.Null, Flags: 1, Addr: 2, Size: 3, Link: 4, Info: 5, Align: 8, EntSize: 7}},
			{name: ".text", Section: shdr.Section{Type: 1<<32 - 1, Flags: 1<<32 - 1, Info: sections - 1, EntSize: 1<<32 - 1}, body: "\x01\x00other"},
		},
		segments: []phdr.Segment{
			{Type: 1, Flags: 5, Offset: 1, VAddr: 3, PAddr: 4, FileSize: 3, MemSize: 2, Align: 3},
			{Type: 1<<32 - 1, Offset: 2},
		},
	}
	d.nameAll()
	return d
}

// nameAll makes the table of the sections' names.
func (d *draft) nameAll() {
	var l []string
	for _, x := range d.parts {
		l = append(l, x.name)
	}
	table, at, _ := strtab.Build(l...)
	d.parts[shnames].body = table
	for i := range d.parts {
		d.parts[i].Name = at[i]
	}
}

// bytesOf returns the bytes of a section.
func (d *draft) bytesOf(t *testing.T, x part) string {
	t.Helper()
	var b strings.Builder
	add := func(part string, ok bool) {
		if !ok {
			t.Fatal("a number of the draft does not fit into its field")
		}
		b.WriteString(part)
	}
	add(x.body, true)
	for _, y := range x.syms {
		add(symrec.Put(d.Form, y))
	}
	add(relrec.PutAll(d.Form, x.Type == shdr.Rela, x.relocs...))
	for _, n := range x.numbers {
		add(d.Put(n, 4), true)
	}
	add(x.more, true)
	return b.String()
}

// bytes returns the file: header, table of segments, sections, table of
// sections.
func (d *draft) bytes(t *testing.T) string {
	t.Helper()
	h, plain := d.head, ehdr.Plain(d.Form)
	h.Version, h.Ehsize, h.Phentsize, h.Shentsize = plain.Version, plain.Ehsize, plain.Phentsize, plain.Shentsize
	if h.Phnum = uint64(len(d.segments)); h.Phnum > 0 {
		h.Phoff = h.Ehsize
	}
	if d.parts != nil {
		h.Shnum = uint64(len(d.parts))
	}
	body, table, begin := "", "", h.Ehsize+h.Phnum*h.Phentsize
	for _, x := range d.parts {
		s := d.bytesOf(t, x)
		if x.Offset = begin + uint64(len(body)); s != "" || x.Type != shdr.NoBits && x.Type != shdr.Null {
			x.Size = uint64(len(s))
		}
		body += s
		head, ok := shdr.Put(d.Form, x.Section)
		if !ok {
			t.Fatal("a number of the draft does not fit into its field")
		}
		table += head
	}
	if d.parts != nil {
		h.Shoff = begin + uint64(len(body))
	}
	s, ok := ehdr.Put(d.Form, h)
	s = d.Ident.Bytes() + s
	for _, x := range d.segments {
		head, fits := phdr.Put(d.Form, x)
		s, ok = s+head, ok && fits
	}
	if !ok {
		t.Fatal("a number of the draft does not fit into its field")
	}
	return s + body + table
}

// good holds that a draft is parsed as a model.
func (d *draft) good(t *testing.T, want Model) {
	t.Helper()
	if got, e := Parse(d.bytes(t)); e != api.OK || !equal(got, want) {
		t.Errorf("%v: Parse = %+v, %v, want %+v", d.Form, got, e, want)
	}
}

// fine holds that a draft has no error.
func (d *draft) fine(t *testing.T, name string) {
	t.Helper()
	if _, e := Parse(d.bytes(t)); e != api.OK {
		t.Errorf("%v: %s: Parse = %v", d.Form, name, e)
	}
}

// bad holds that a draft has this error, and nothing beside it.
func (d *draft) bad(t *testing.T, name string, want api.Errno) {
	t.Helper()
	if got, e := Parse(d.bytes(t)); e != want || !equal(got, Model{}) {
		t.Errorf("%v: %s: Parse = %v, want %v; nothing beside it: %v", d.Form, name, e, want, equal(got, Model{}))
	}
}

func equal(a, b Model) bool {
	return a.Ident == b.Ident && a.Type == b.Type && a.Machine == b.Machine && a.Entry == b.Entry &&
		a.Flags == b.Flags && a.Names == b.Names && slices.Equal(a.Segments, b.Segments) &&
		slices.EqualFunc(a.Sections, b.Sections, equalSections)
}

func equalSections(a, b Section) bool {
	return a.Name == b.Name && a.Type == b.Type && a.Flags == b.Flags && a.Addr == b.Addr && a.Link == b.Link &&
		a.Info == b.Info && a.Align == b.Align && a.EntSize == b.EntSize && a.Size == b.Size && a.Data == b.Data &&
		slices.Equal(a.Syms, b.Syms) && slices.Equal(a.Relocs, b.Relocs) && slices.Equal(a.Members, b.Members)
}
