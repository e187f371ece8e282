package raw

import (
	"slices"
	"testing"

	"graver/api"
	"graver/class"
	"graver/ehdr"
	"graver/order"
	"graver/phdr"
	"graver/shdr"
)

var forms = []class.Form{
	{},
	{Wide: true},
	{Order: order.Order{Big: true}},
	{Order: order.Order{Big: true}, Wide: true},
}

// draft of a file, in which each test changes what it is about: the tables are
// laid where head tells, and what is beyond size is cut off.
type draft struct {
	class.Ident
	head     ehdr.Head
	sections []shdr.Section
	segments []phdr.Segment
	size     uint64
	patches  []patch
}

// patch is a byte that is written over all others.
type patch struct {
	at    int
	value byte
}

// headSize, sectionSize and segmentSize of a form, as the chapters tell them.
func headSize(f class.Form) uint64    { return pick(f, 52, 64) }
func sectionSize(f class.Form) uint64 { return pick(f, 40, 64) }
func segmentSize(f class.Form) uint64 { return pick(f, 32, 56) }

func pick(f class.Form, narrow, wide uint64) uint64 {
	if f.Wide {
		return wide
	}
	return narrow
}

// whole is a draft with two segments and four sections: header, table of
// segments, 64 bytes of sections, table of sections.
func whole(f class.Form) *draft {
	body := headSize(f) + 2*segmentSize(f)
	end := body + 64
	return &draft{
		Ident: class.Ident{Form: f, ABI: 3, Version: 4, Pad: "padding"},
		head: ehdr.Head{
			Type: 5, Machine: 6, Version: 1, Entry: 7, Phoff: headSize(f), Shoff: end, Flags: 8,
			Ehsize: headSize(f), Phentsize: segmentSize(f), Phnum: 2, Shentsize: sectionSize(f), Shnum: 4, Shstrndx: 1,
		},
		segments: []phdr.Segment{
			{Type: 1, Flags: 5, Offset: 0, VAddr: 9, PAddr: 10, FileSize: body + 20, MemSize: 500, Align: 3},
			{Type: 0, Offset: body + 16, FileSize: 48},
		},
		sections: []shdr.Section{
			{},
			{Name: 11, Type: shdr.StrTab, Offset: body, Size: 16, Align: 1},
			{Name: 12, Type: shdr.ProgBits, Flags: 13, Addr: 14, Offset: body + 16, Size: 48, Link: 15, Info: 16, Align: 16, EntSize: 17},
			{Name: 13, Type: shdr.NoBits, Offset: 1 << 31, Size: 1 << 30, Align: 1 << 31},
		},
		size: end + 4*sectionSize(f),
	}
}

// segmentsOnly is a draft without sections, whose table of segments is at its
// end.
func segmentsOnly(f class.Form) *draft {
	d := whole(f)
	d.sections = nil
	d.head.Shoff, d.head.Shentsize, d.head.Shnum, d.head.Shstrndx = 0, 0, 0, 0
	d.head.Phoff = headSize(f) + 64
	d.size = d.head.Phoff + 2*segmentSize(f)
	d.segments[0] = phdr.Segment{Type: 1, FileSize: d.size}
	d.segments[1] = phdr.Segment{Type: 2, Offset: headSize(f), FileSize: 64}
	return d
}

func (d *draft) bytes(t *testing.T) string {
	t.Helper()
	b := make([]byte, d.size)
	for i := range b {
		b[i] = byte('a' + i%26)
	}
	lay := func(at uint64, s string, ok bool) {
		if !ok {
			t.Fatal("a number of the draft does not fit into its field")
		}
		if at < uint64(len(b)) {
			copy(b[at:], s)
		}
	}
	for i, x := range d.segments {
		s, ok := phdr.Put(d.Form, x)
		lay(d.head.Phoff+uint64(i)*segmentSize(d.Form), s, ok)
	}
	for i, x := range d.sections {
		s, ok := shdr.Put(d.Form, x)
		lay(d.head.Shoff+uint64(i)*sectionSize(d.Form), s, ok)
	}
	s, ok := ehdr.Put(d.Form, d.head)
	lay(0, d.Ident.Bytes()+s, ok)
	for _, x := range d.patches {
		b[x.at] = x.value
	}
	return string(b)
}

// file is what a draft without faults is parsed as.
func (d *draft) file(names uint64) File {
	return File{Ident: d.Ident, Header: d.head, Sections: d.sections, Segments: d.segments, Names: names}
}

func equal(a, b File) bool {
	return a.Ident == b.Ident && a.Header == b.Header && a.Names == b.Names &&
		slices.Equal(a.Sections, b.Sections) && slices.Equal(a.Segments, b.Segments)
}

// good holds that a draft is parsed, with this table of names.
func (d *draft) good(t *testing.T, names uint64) {
	t.Helper()
	if got, e := Parse(d.bytes(t)); e != api.OK || !equal(got, d.file(names)) {
		t.Errorf("%v: Parse = %+v, %v, want %+v", d.Form, got, e, d.file(names))
	}
}

// bad holds that a draft has this error, and nothing beside it.
func (d *draft) bad(t *testing.T, want api.Errno) {
	t.Helper()
	if got, e := Parse(d.bytes(t)); e != want || !equal(got, File{}) {
		t.Errorf("%v: Parse = %+v, %v, want %v", d.Form, got, e, want)
	}
}
