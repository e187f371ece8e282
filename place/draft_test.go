package place

import (
	"fmt"
	"strings"
	"testing"

	"graver/api"
	"graver/class"
	"graver/ehdr"
	"graver/model"
	"graver/order"
	"graver/phdr"
	"graver/relrec"
	"graver/shdr"
	"graver/symrec"
)

var forms = []class.Form{
	{},
	{Wide: true},
	{Order: order.Order{Big: true}},
	{Order: order.Order{Big: true}, Wide: true},
}

// The indices of the sections of whole.
const (
	null = iota
	shnames
	symnames
	symtab
	indices
	text
	bss
	rel
	rela
	group
	empty
	other
	sections
)

// The tables of names of whole. Names are where they are in them, not where a
// canonical writer would put them.
const (
	sectionNames = "\x00.x\x00names\x00.text\x00\x00"
	symbolNames  = "\x00one\x00two\x00three\x00"
)

// draft of a file, in which each test changes what it is about. Its parts are
// laid one behind the other, with some bytes that are in none behind each.
type draft struct {
	class.Ident
	head     ehdr.Head
	heads    []shdr.Section
	bodies   []string
	segments []phdr.Segment
	images   []string
	rest     []Chunk
	out      strings.Builder
}

// whole is a draft with a section of each type that the chapter tells of.
func whole(t *testing.T, f class.Form) *draft {
	t.Helper()
	d := &draft{Ident: class.Ident{Form: f, ABI: 3, Version: 4, Pad: "padding"}, head: ehdr.Plain(f)}
	d.head.Type, d.head.Machine, d.head.Entry, d.head.Flags = 1, 62, 0x1001, 9
	d.head.Shstrndx = shnames
	d.heads = []shdr.Section{
		{Name: 1, Flags: 2, Addr: 3, Offset: 1 << 31, Size: 5, Link: 1 << 31, Info: 7, Align: 8, EntSize: 9},
		{Name: 4, Type: shdr.StrTab, Addr: 5},
		{Name: 1, Type: shdr.StrTab, Align: 1},
		{Name: 4, Type: shdr.SymTab, Link: symnames, Info: 3, Align: 8, EntSize: uint64(symrec.Size(f))},
		{Name: 4, Type: shdr.Indices, Link: symtab, EntSize: 4},
		{Name: 10, Type: shdr.ProgBits, Flags: shdr.Alloc | shdr.Exec, Addr: 0x1000, Align: 16},
		{Name: 2, Type: shdr.NoBits, Flags: shdr.Alloc, Addr: 0x2000, Offset: 1 << 31, Size: 1<<32 - 1, Align: 32},
		{Name: 11, Type: shdr.Rel, Flags: shdr.InfoLink, Link: symtab, Info: text, EntSize: uint64(relrec.Size(f, false))},
		{Name: 12, Type: shdr.Rela, Link: symtab, Info: other, EntSize: uint64(relrec.Size(f, true))},
		{Name: 13, Type: shdr.Group, Link: symtab, Info: 3, EntSize: 4},
		{Name: 16, Type: shdr.Null, Flags: 1, Addr: 2, Offset: 1<<31 - 1, Size: 1 << 31, Link: 4, Info: 5, Align: 8, EntSize: 7},
		{Name: 0, Type: 1<<32 - 1, Flags: 1<<32 - 1, Info: text, EntSize: 1<<32 - 1},
	}
	syms := []symrec.Symbol{
		{},
		{Name: 1, Info: 0x03, Other: 2, Shndx: text, Value: 1, Size: 2},
		{Name: 6, Info: 0x0f, Other: 255, Shndx: symrec.Abs, Value: 1<<32 - 1, Size: 1<<32 - 2},
		{Name: 9, Info: 0x12, Shndx: symrec.XIndex, Value: 3},
		{Name: 4, Info: 0x20, Shndx: symrec.XIndex},
		{Name: 11, Info: 0xf1, Shndx: symrec.Common},
	}
	put := func(s string, ok bool) string {
		if !ok {
			t.Fatal("a number of the draft does not fit into its field")
		}
		return s
	}
	d.bodies = make([]string, sections)
	d.bodies[shnames], d.bodies[symnames] = sectionNames, symbolNames
	for _, x := range syms {
		d.bodies[symtab] += put(symrec.Put(f, x))
	}
	d.bodies[indices] = d.numbers(0, 0, 0, bss, 0, 0)
	d.bodies[text], d.bodies[other] = "some code", "\x01\x00other"
	d.bodies[rel] = put(relrec.PutAll(f, false, relrec.Reloc{Offset: 1, Sym: 5, Type: 255}, relrec.Reloc{Offset: 1<<32 - 1}))
	d.bodies[rela] = put(relrec.PutAll(f, true, relrec.Reloc{Offset: 4, Sym: 1, Type: 7, Addend: 1<<32 - 1}, relrec.Reloc{Type: 8}))
	d.bodies[group] = d.numbers(1<<32-1, text, other, text)
	d.segments = []phdr.Segment{{Type: 1, Flags: 5, VAddr: 3, PAddr: 4, MemSize: 2, Align: 3}, {Type: 1<<32 - 1}, {Type: 6, VAddr: 7}}
	d.images = []string{"an image", "another one", ""}
	return d
}

func (d *draft) numbers(l ...uint64) string {
	s := ""
	for _, n := range l {
		s += d.Put(n, 4)
	}
	return s
}

// part lays some bytes of the file, and returns where they are. Those behind
// them are no part.
func (d *draft) part(s string) uint64 {
	at := d.out.Len()
	d.out.WriteString(s)
	d.gap(fmt.Sprintf("<%d>", at))
	return uint64(at)
}

func (d *draft) gap(s string) {
	d.rest = append(d.rest, Chunk{At: d.out.Len(), Text: s})
	d.out.WriteString(s)
}

// bytes returns the file: ident, header, sections, segments, table of segments,
// table of sections. Where no part is, there is something that d.rest has.
func (d *draft) bytes(t *testing.T) string {
	t.Helper()
	d.out.Reset()
	d.rest = nil
	d.part(strings.Repeat("?", int(ehdr.Plain(d.Form).Ehsize)))
	for i, s := range d.bodies {
		if s != "" {
			d.heads[i].Offset, d.heads[i].Size = d.part(s), uint64(len(s))
		}
	}
	for i, s := range d.images {
		if s != "" {
			d.segments[i].Offset, d.segments[i].FileSize = d.part(s), uint64(len(s))
		}
	}
	table := ""
	for i := range d.segments {
		table += d.segment(t, i)
	}
	if d.head.Phoff = 0; table != "" {
		d.head.Phoff, d.head.Phnum = d.part(table), uint64(len(d.segments))
	}
	table = ""
	for _, x := range d.heads {
		s, _ := shdr.Put(d.Form, x)
		table += s
	}
	if d.head.Shoff = 0; table != "" {
		d.head.Shoff, d.head.Shnum = d.part(table), uint64(len(d.heads))
	}
	return d.begin(t) + d.out.String()[int(ehdr.Plain(d.Form).Ehsize):]
}

// begin returns the ident and the header.
func (d *draft) begin(t *testing.T) string {
	t.Helper()
	s, ok := ehdr.Put(d.Form, d.head)
	if !ok {
		t.Fatal("a number of the header does not fit into its field")
	}
	return d.Ident.Bytes() + s
}

// segment returns the header of segment i.
func (d *draft) segment(t *testing.T, i int) string {
	t.Helper()
	s, ok := phdr.Put(d.Form, d.segments[i])
	if !ok {
		t.Fatal("a number of the draft does not fit into its field")
	}
	return s
}

// read returns the model and the place of a file that has both.
func read(t *testing.T, s string) (model.Model, Place) {
	t.Helper()
	m, p, e := Read(s)
	if e != api.OK {
		t.Fatalf("Read = %v", e)
	}
	return m, p
}

// same reports whether two things are told alike; empty lists are.
func same(a, b any) bool { return fmt.Sprintf("%+v", a) == fmt.Sprintf("%+v", b) }
