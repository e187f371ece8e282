package record_test

import (
	"math"
	"math/rand"
	"slices"
	"strings"
	"testing"

	"graver/class"
	"graver/ehdr"
	"graver/order"
	"graver/phdr"
	"graver/relrec"
	"graver/shdr"
	"graver/symrec"
)

var forms = []class.Form{
	{},
	{Wide: true},
	{Order: order.Order{Big: true}},
	{Order: order.Order{Big: true}, Wide: true},
}

// field of a record T, with the bytes that its chapter gives it; 0 stands for a
// word.
type field[T any] struct {
	name  string
	bytes int
	of    func(x *T) *uint64
}

// layer that puts and reads records T, with its fields in the order of its
// chapter.
type layer[T comparable] struct {
	size   func(f class.Form) int
	put    func(f class.Form, x T) (string, bool)
	read   func(f class.Form, s string) (T, bool)
	fields func(f class.Form) []field[T]
}

func (x field[T]) width(f class.Form) int {
	if x.bytes == 0 {
		return f.Word()
	}
	return x.bytes
}

// most returns the greatest number that fits into a field.
func (x field[T]) most(f class.Form) uint64 { return math.MaxUint64 >> (64 - 8*x.width(f)) }

// P5.1, P5.2
func TestEhdr(t *testing.T) {
	try(t, layer[ehdr.Head]{ehdr.Size, ehdr.Put, ehdr.Read, func(class.Form) []field[ehdr.Head] {
		return []field[ehdr.Head]{
			{"Type", 2, func(x *ehdr.Head) *uint64 { return &x.Type }},
			{"Machine", 2, func(x *ehdr.Head) *uint64 { return &x.Machine }},
			{"Version", 4, func(x *ehdr.Head) *uint64 { return &x.Version }},
			{"Entry", 0, func(x *ehdr.Head) *uint64 { return &x.Entry }},
			{"Phoff", 0, func(x *ehdr.Head) *uint64 { return &x.Phoff }},
			{"Shoff", 0, func(x *ehdr.Head) *uint64 { return &x.Shoff }},
			{"Flags", 4, func(x *ehdr.Head) *uint64 { return &x.Flags }},
			{"Ehsize", 2, func(x *ehdr.Head) *uint64 { return &x.Ehsize }},
			{"Phentsize", 2, func(x *ehdr.Head) *uint64 { return &x.Phentsize }},
			{"Phnum", 2, func(x *ehdr.Head) *uint64 { return &x.Phnum }},
			{"Shentsize", 2, func(x *ehdr.Head) *uint64 { return &x.Shentsize }},
			{"Shnum", 2, func(x *ehdr.Head) *uint64 { return &x.Shnum }},
			{"Shstrndx", 2, func(x *ehdr.Head) *uint64 { return &x.Shstrndx }},
		}
	}})
}

// P6.1, P6.2
func TestShdr(t *testing.T) {
	try(t, layer[shdr.Section]{shdr.Size, shdr.Put, shdr.Read, func(class.Form) []field[shdr.Section] {
		return []field[shdr.Section]{
			{"Name", 4, func(x *shdr.Section) *uint64 { return &x.Name }},
			{"Type", 4, func(x *shdr.Section) *uint64 { return &x.Type }},
			{"Flags", 0, func(x *shdr.Section) *uint64 { return &x.Flags }},
			{"Addr", 0, func(x *shdr.Section) *uint64 { return &x.Addr }},
			{"Offset", 0, func(x *shdr.Section) *uint64 { return &x.Offset }},
			{"Size", 0, func(x *shdr.Section) *uint64 { return &x.Size }},
			{"Link", 4, func(x *shdr.Section) *uint64 { return &x.Link }},
			{"Info", 4, func(x *shdr.Section) *uint64 { return &x.Info }},
			{"Align", 0, func(x *shdr.Section) *uint64 { return &x.Align }},
			{"EntSize", 0, func(x *shdr.Section) *uint64 { return &x.EntSize }},
		}
	}})
}

// P7.1, P7.2
func TestPhdr(t *testing.T) {
	flags := field[phdr.Segment]{"Flags", 4, func(x *phdr.Segment) *uint64 { return &x.Flags }}
	try(t, layer[phdr.Segment]{phdr.Size, phdr.Put, phdr.Read, func(f class.Form) []field[phdr.Segment] {
		at := 6
		if f.Wide {
			at = 1
		}
		return slices.Insert([]field[phdr.Segment]{
			{"Type", 4, func(x *phdr.Segment) *uint64 { return &x.Type }},
			{"Offset", 0, func(x *phdr.Segment) *uint64 { return &x.Offset }},
			{"VAddr", 0, func(x *phdr.Segment) *uint64 { return &x.VAddr }},
			{"PAddr", 0, func(x *phdr.Segment) *uint64 { return &x.PAddr }},
			{"FileSize", 0, func(x *phdr.Segment) *uint64 { return &x.FileSize }},
			{"MemSize", 0, func(x *phdr.Segment) *uint64 { return &x.MemSize }},
			{"Align", 0, func(x *phdr.Segment) *uint64 { return &x.Align }},
		}, at, flags)
	}})
}

// P8.1, P8.2
func TestSymrec(t *testing.T) {
	words := []field[symrec.Symbol]{
		{"Value", 0, func(x *symrec.Symbol) *uint64 { return &x.Value }},
		{"Size", 0, func(x *symrec.Symbol) *uint64 { return &x.Size }},
	}
	try(t, layer[symrec.Symbol]{symrec.Size, symrec.Put, symrec.Read, func(f class.Form) []field[symrec.Symbol] {
		at := 1
		if f.Wide {
			at = 4
		}
		return slices.Insert([]field[symrec.Symbol]{
			{"Name", 4, func(x *symrec.Symbol) *uint64 { return &x.Name }},
			{"Info", 1, func(x *symrec.Symbol) *uint64 { return &x.Info }},
			{"Other", 1, func(x *symrec.Symbol) *uint64 { return &x.Other }},
			{"Shndx", 2, func(x *symrec.Symbol) *uint64 { return &x.Shndx }},
		}, at, words...)
	}})
}

// P9.1, P9.2: the info has the Type in its lowest bits, which a big-endian form
// has last.
func TestRelrec(t *testing.T) {
	for _, addend := range []bool{false, true} {
		size := func(f class.Form) int { return relrec.Size(f, addend) }
		put := func(f class.Form, x relrec.Reloc) (string, bool) { return relrec.Put(f, addend, x) }
		read := func(f class.Form, s string) (relrec.Reloc, bool) { return relrec.Read(f, addend, s) }
		try(t, layer[relrec.Reloc]{size, put, read, func(f class.Form) []field[relrec.Reloc] {
			info := []field[relrec.Reloc]{
				{"Type", 1, func(x *relrec.Reloc) *uint64 { return &x.Type }},
				{"Sym", 3, func(x *relrec.Reloc) *uint64 { return &x.Sym }},
			}
			if f.Wide {
				info[0].bytes, info[1].bytes = 4, 4
			}
			if f.Big {
				slices.Reverse(info)
			}
			l := append([]field[relrec.Reloc]{
				{"Offset", 0, func(x *relrec.Reloc) *uint64 { return &x.Offset }},
			}, info...)
			if addend {
				l = append(l, field[relrec.Reloc]{"Addend", 0, func(x *relrec.Reloc) *uint64 { return &x.Addend }})
			}
			return l
		}})
	}
}

func try[T comparable](t *testing.T, l layer[T]) {
	for _, f := range forms {
		at := 0
		for _, x := range l.fields(f) {
			tryFit(t, l, f, x, at)
			tryMisfit(t, l, f, x)
			at += x.width(f)
		}
		if got := l.size(f); got != at {
			t.Errorf("Size(%v) = %d, want %d", f, got, at)
		}
		tryFewBytes(t, l, f)
		tryAnyBytes(t, l, f)
	}
}

// tryFit: a field has its place and its bytes.
func tryFit[T comparable](t *testing.T, l layer[T], f class.Form, x field[T], at int) {
	width, most := x.width(f), x.most(f)
	for _, n := range []uint64{0, 1, 0x0807060504030201 & most, most >> 1, most - 1, most} {
		var rec T
		*x.of(&rec) = n
		s := strings.Repeat("\x00", at) + f.Put(n, width) + strings.Repeat("\x00", l.size(f)-at-width)
		if got, ok := l.put(f, rec); got != s || !ok {
			t.Errorf("%v, %s %#x: %q, %v, want %q", f, x.name, n, got, ok, s)
		}
		if got, ok := l.read(f, s); got != rec || !ok {
			t.Errorf("%v, %s %#x: read as %v, %v", f, x.name, n, got, ok)
		}
	}
}

// tryMisfit: a number that a field cannot hold is rejected.
func tryMisfit[T comparable](t *testing.T, l layer[T], f class.Form, x field[T]) {
	most := x.most(f)
	if most == math.MaxUint64 {
		return
	}
	for _, n := range []uint64{most + 1, most + 2, 1 << 63, math.MaxUint64} {
		var rec T
		*x.of(&rec) = n
		if got, ok := l.put(f, rec); got != "" || ok {
			t.Errorf("%v, %s %#x: %q, %v", f, x.name, n, got, ok)
		}
	}
}

// tryFewBytes: nothing is read of fewer bytes than a record has.
func tryFewBytes[T comparable](t *testing.T, l layer[T], f class.Form) {
	s := strings.Repeat("x", l.size(f))
	var zero T
	for n := range len(s) {
		if got, ok := l.read(f, s[:n]); got != zero || ok {
			t.Errorf("%v: of %d bytes %v, %v", f, n, got, ok)
		}
	}
	whole, ok := l.read(f, s)
	if !ok {
		t.Errorf("%v: %d bytes are not read", f, len(s))
	}
	if got, ok := l.read(f, s+"more"); got != whole || !ok {
		t.Errorf("%v: with more bytes %v, %v", f, got, ok)
	}
}

// tryAnyBytes: what is read is put as the same bytes.
func tryAnyBytes[T comparable](t *testing.T, l layer[T], f class.Form) {
	random := rand.New(rand.NewSource(56))
	for range 300 {
		b := make([]byte, l.size(f))
		random.Read(b)
		x, ok := l.read(f, string(b))
		if !ok {
			t.Fatalf("%v: %q is not read", f, b)
		}
		if got, ok := l.put(f, x); got != string(b) || !ok {
			t.Fatalf("%v: %q is put as %q, %v", f, b, got, ok)
		}
	}
}
