package canon

import (
	"fmt"
	"slices"
	"strings"
	"testing"

	"graver/api"
	"graver/class"
	"graver/ehdr"
	"graver/model"
	"graver/order"
	"graver/place"
	"graver/raw"
	"graver/relrec"
	"graver/shdr"
	"graver/span"
	"graver/strtab"
	"graver/symrec"
)

var forms = []class.Form{
	{},
	{Wide: true},
	{Order: order.Order{Big: true}},
	{Order: order.Order{Big: true}, Wide: true},
}

// The indices of the sections of whole.
const (
	null = iota
	symtab
	shnames
	text
	symnames
	indices
	bss
	rel
	rela
	group
	dynsym
	empty
	second
	other
	sections
)

// whole is a model with a section of each type that layer 13 tells of, and two
// tables of symbols that share one of names.
func whole(f class.Form) model.Model {
	symbols := uint64(symrec.Size(f))
	return model.Model{
		Ident: class.Ident{Form: f, ABI: 3, Version: 4}, Type: 1, Machine: 62, Entry: 0x1001, Flags: 9, Names: shnames,
		Sections: []model.Section{
			{},
			{Name: "symbols", Type: shdr.SymTab, Link: symnames, Info: 2, Align: 8, EntSize: symbols, Syms: []model.Symbol{
				{},
				{Name: "one", Info: 3, Other: 2, Value: 1, Size: 2, Sect: text},
				{Name: "text", Info: 0x10, Value: 1<<32 - 1, Sect: symrec.Abs, Special: true},
				{Info: 0x20, Sect: other},
			}},
			{Name: ".names", Type: shdr.StrTab, Addr: 7},
			{Name: ".text", Type: shdr.ProgBits, Flags: shdr.Alloc, Addr: 0x1000, Align: 32, Data: "some code"},
			{Name: "names", Type: shdr.StrTab, Align: 1},
			{Name: "indices", Type: shdr.Indices, Link: symtab, EntSize: 4, Align: 2},
			{Name: ".bss", Type: shdr.NoBits, Addr: 0x2000, Size: 1<<32 - 1, Align: 64},
			{Name: ".rel", Type: shdr.Rel, Link: symtab, Info: text, EntSize: uint64(2 * f.Word()), Align: 4, Relocs: []relrec.Reloc{
				{Offset: 1, Sym: 3, Type: 255}, {Offset: 1<<32 - 1},
			}},
			{Name: ".rela", Type: shdr.Rela, Link: second, EntSize: uint64(3 * f.Word()), Align: 4, Relocs: []relrec.Reloc{
				{Offset: 4, Sym: 1, Type: 7, Addend: 1<<32 - 1},
			}},
			{Name: "", Type: shdr.Group, Link: symtab, Info: 3, EntSize: 4, Members: []uint64{1<<32 - 1, text, other}},
			{Name: "dynamic", Type: shdr.DynSym, Link: text, Data: "x"},
			{Name: "empty", Type: shdr.Null, Flags: 1, Addr: 2, Link: text, Info: 5, Align: 16, EntSize: 7},
			{Name: "symbols", Type: shdr.SymTab, Link: symnames, Info: 1, EntSize: symbols, Syms: []model.Symbol{
				{},
				{Name: "two", Info: 0x12, Sect: symrec.Common, Special: true},
			}},
			{Name: "s", Type: 1<<32 - 1, Flags: 1<<32 - 1, Info: text, EntSize: 1<<32 - 1, Data: "\x00other"},
		},
		Segments: []model.Segment{
			{Type: 1, Flags: 5, VAddr: 3, PAddr: 4, MemSize: 2, Align: 4096, Data: "ELF"},
			{Type: 1<<32 - 1},
			{Type: 6, Data: "image"},
		},
	}
}

// The tables of names of whole, and where the names are in them.
const (
	wholeNames   = "\x00symbols\x00empty\x00dynamic\x00.rela\x00.rel\x00.bss\x00indices\x00.text\x00.names\x00"
	wholeSymbols = "\x00two\x00text\x00one\x00"
)

// same reports whether two things are told alike; empty lists are.
func same(a, b any) bool { return fmt.Sprintf("%+v", a) == fmt.Sprintf("%+v", b) }

// mustWrite returns the file of a model that has one.
func mustWrite(t *testing.T, m model.Model) string {
	t.Helper()
	s, e := Write(m)
	if e != api.OK {
		t.Fatalf("Write = %v of %+v", e, m)
	}
	return s
}

// isCanonical holds that the file of a model is what the chapter tells, as far
// as that can be seen from the file and its tables; it reports whether there is
// such a file.
func isCanonical(t *testing.T, m model.Model) bool {
	t.Helper()
	s, e := Write(m)
	n, sizeError := Size(m)
	l, placesError := Places(m)
	if sizeError != e || placesError != e || n != len(s) {
		t.Errorf("Write, Size, Places = %v, %v, %v; %d bytes, Size %d", e, sizeError, placesError, len(s), n)
	}
	if e != api.OK {
		if s != "" || len(l) != 0 {
			t.Errorf("beside %v: Write = %q, Places = %v", e, s, l)
		}
		return false
	}
	got, p, e := place.Read(s)
	m.Pad = ""
	if e != api.OK || !same(got, m) {
		t.Fatalf("the model of the file is %+v, %v, want %+v", got, e, m)
	}
	if again, e := Write(got); again != s || e != api.OK {
		t.Errorf("the model of the file is written as %q, %v, not as %q", again, e, s)
	}
	if span.Clash(p.File.Spans()...) {
		t.Errorf("spans overlap: %+v", p.File.Spans())
	}
	for _, x := range p.Rest {
		if strings.Trim(x.Text, "\x00") != "" {
			t.Errorf("Rest = %+v", p.Rest)
		}
	}
	hasHeader(t, m, p)
	hasPositions(t, p, l)
	hasNames(t, m, p)
	return true
}

// hasHeader holds that the header of a file is the one of its model.
func hasHeader(t *testing.T, m model.Model, p place.Place) {
	t.Helper()
	h := ehdr.Plain(m.Form)
	h.Type, h.Machine, h.Entry, h.Flags, h.Shstrndx = m.Type, m.Machine, m.Entry, m.Flags, m.Names
	h.Phnum, h.Shnum, h.Phoff, h.Shoff = uint64(len(m.Segments)), uint64(len(m.Sections)), p.Header.Phoff, p.Header.Shoff
	if p.Header != h || (h.Phoff == 0) != (h.Phnum == 0) || (h.Shoff == 0) != (h.Shnum == 0) || strings.Trim(p.Pad, "\x00") != "" {
		t.Errorf("the header is %+v, the pad %q", p.Header, p.Pad)
	}
	if len(p.Sections) > 0 && p.Sections[0] != (shdr.Section{}) {
		t.Errorf("the first section is %+v", p.Sections[0])
	}
	for i, x := range m.Sections {
		if x.Type == shdr.Null && p.Sections[i].Size != 0 {
			t.Errorf("Size of a Null = %d", p.Sections[i].Size)
		}
	}
}

// hasPositions holds that each part of a file is where the one before it ends,
// but for its alignment.
func hasPositions(t *testing.T, p place.Place, offsets []uint64) {
	t.Helper()
	end := p.Header.Ehsize
	part := func(what string, at, n, align uint64) {
		t.Helper()
		for align > 0 && end%align != 0 {
			end++
		}
		if at != end {
			t.Errorf("%s is at %d, want %d", what, at, end)
		}
		end = at + n
	}
	word := uint64(p.Word())
	if n := uint64(len(p.Segments)); n > 0 {
		part("the table of segments", p.Header.Phoff, n*p.Header.Phentsize, word)
	}
	var want []uint64
	for i, x := range p.Sections {
		want = append(want, x.Offset)
		if i == 0 {
			continue
		}
		n := x.Size
		if !raw.HasData(x) {
			n = 0
		}
		part(fmt.Sprintf("section %d", i), x.Offset, n, x.Align)
	}
	for i, x := range p.Segments {
		part(fmt.Sprintf("segment %d", i), x.Offset, x.FileSize, 0)
	}
	if n := uint64(len(p.Sections)); n > 0 {
		part("the table of sections", p.Header.Shoff, n*p.Header.Shentsize, word)
	}
	if int(end) != p.Size {
		t.Errorf("the file has %d bytes, want %d", p.Size, end)
	}
	if !slices.Equal(offsets, want) {
		t.Errorf("Places = %v, want %v", offsets, want)
	}
}

// hasNames holds that the tables of names are those of Build, and that no symbol
// is far.
func hasNames(t *testing.T, m model.Model, p place.Place) {
	t.Helper()
	for i, isTable := range m.Tables() {
		l := Texts(m, i)
		if slices.ContainsFunc(p.Far[i], func(far bool) bool { return far }) {
			t.Errorf("section %d has far symbols", i)
		}
		if !isTable {
			if len(l) != 0 || p.Tables[i] != "" {
				t.Errorf("Texts(%d) = %q", i, l)
			}
			continue
		}
		table, at, _ := strtab.Build(l...)
		var got []uint64
		if uint64(i) == m.Names {
			for _, x := range p.Sections[1:] {
				got = append(got, x.Name)
			}
		}
		for k, x := range m.Sections {
			if x.Type == shdr.SymTab && x.Link == uint64(i) {
				got = append(got, p.Names[k]...)
			}
		}
		if p.Tables[i] != table || !slices.Equal(got, at) {
			t.Errorf("the table %d is %q with %v, want %q with %v", i, p.Tables[i], got, table, at)
		}
	}
}
