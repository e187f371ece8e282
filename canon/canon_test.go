package canon

import (
	"math"
	"slices"
	"strings"
	"testing"

	"graver/api"
	"graver/class"
	"graver/ehdr"
	"graver/model"
	"graver/phdr"
	"graver/relrec"
	"graver/shdr"
	"graver/symrec"
)

// file is laid part by part, as the chapter tells.
type file struct {
	class.Form
	t   *testing.T
	out string
}

func (x *file) part(align uint64, s string) uint64 {
	for align > 0 && uint64(len(x.out))%align != 0 {
		x.out += "\x00"
	}
	at := uint64(len(x.out))
	x.out += s
	return at
}

func (x *file) put(s string, ok bool) string {
	x.t.Helper()
	if !ok {
		x.t.Fatal("a number does not fit into its field")
	}
	return s
}

// offset returns the least one of a name in a table.
func offset(table, name string) uint64 { return uint64(strings.Index(table, name+"\x00")) }

// bodiesOfWhole are those of the sections of whole.
func (x *file) bodiesOfWhole() [sections]string {
	var l [sections]string
	for _, y := range []symrec.Symbol{
		{},
		{Name: offset(wholeSymbols, "one"), Info: 3, Other: 2, Shndx: text, Value: 1, Size: 2},
		{Name: offset(wholeSymbols, "text"), Info: 0x10, Shndx: symrec.Abs, Value: 1<<32 - 1},
		{Info: 0x20, Shndx: other},
	} {
		l[symtab] += x.put(symrec.Put(x.Form, y))
	}
	l[second] = x.put(symrec.Put(x.Form, symrec.Symbol{})) + x.put(symrec.Put(x.Form, symrec.Symbol{Name: offset(wholeSymbols, "two"), Info: 0x12, Shndx: symrec.Common}))
	l[shnames], l[symnames] = wholeNames, wholeSymbols
	l[text], l[dynsym], l[other] = "some code", "x", "\x00other"
	l[indices] = strings.Repeat("\x00", 16)
	l[rel] = x.put(relrec.PutAll(x.Form, false, relrec.Reloc{Offset: 1, Sym: 3, Type: 255}, relrec.Reloc{Offset: 1<<32 - 1}))
	l[rela] = x.put(relrec.PutAll(x.Form, true, relrec.Reloc{Offset: 4, Sym: 1, Type: 7, Addend: 1<<32 - 1}))
	l[group] = x.Put(1<<32-1, 4) + x.Put(text, 4) + x.Put(other, 4)
	return l
}

// fileOfWhole is the file of whole, told in full.
func fileOfWhole(t *testing.T, f class.Form) (string, []uint64) {
	x := &file{Form: f, t: t}
	m, h, word := whole(f), ehdr.Plain(f), uint64(f.Word())
	h.Type, h.Machine, h.Entry, h.Flags = 1, 62, 0x1001, 9
	h.Phnum, h.Shnum, h.Shstrndx = 3, sections, shnames
	x.part(0, strings.Repeat("?", int(h.Ehsize)))
	segments := []phdr.Segment{
		{Type: 1, Flags: 5, VAddr: 3, PAddr: 4, FileSize: 3, MemSize: 2, Align: 4096}, {Type: 1<<32 - 1}, {Type: 6, FileSize: 5},
	}
	h.Phoff = x.part(word, strings.Repeat("?", 3*int(h.Phentsize)))
	at := make([]uint64, sections)
	table := x.put(shdr.Put(f, shdr.Section{}))
	for i, s := range x.bodiesOfWhole() {
		if i == 0 {
			continue
		}
		y := m.Sections[i]
		at[i] = x.part(y.Align, s)
		table += x.put(shdr.Put(f, shdr.Section{
			Name: offset(wholeNames, y.Name), Type: y.Type, Flags: y.Flags, Addr: y.Addr, Offset: at[i], Size: max(uint64(len(s)), y.Size),
			Link: y.Link, Info: y.Info, Align: y.Align, EntSize: y.EntSize,
		}))
	}
	heads := ""
	for i, s := range []string{"ELF", "", "image"} {
		segments[i].Offset = x.part(0, s)
		heads += x.put(phdr.Put(f, segments[i]))
	}
	h.Shoff = x.part(word, table)
	begin := class.Ident{Form: f, ABI: 3, Version: 4}.Bytes() + x.put(ehdr.Put(f, h))
	s := begin + x.out[len(begin):]
	return s[:h.Phoff] + heads + s[int(h.Phoff)+len(heads):], at
}

// P16.1, P16.3: a model with a section of each type.
func TestWholeFile(t *testing.T) {
	for _, f := range forms {
		want, at := fileOfWhole(t, f)
		m := whole(f)
		if got := mustWrite(t, m); got != want {
			t.Errorf("%v: Write = %q, want %q", f, got, want)
		}
		if l, e := Places(m); !slices.Equal(l, at) || e != api.OK {
			t.Errorf("%v: Places = %v, %v, want %v", f, l, e, at)
		}
		if n, e := Size(m); n != len(want) || e != api.OK {
			t.Errorf("%v: Size = %d, %v, want %d", f, n, e, len(want))
		}
		isCanonical(t, m)
		m.Pad = "a pad"
		if got := mustWrite(t, m); got != want {
			t.Errorf("%v: the pad is written", f)
		}
	}
}

// P16.1: the example of the chapter.
func TestHeaderAlone(t *testing.T) {
	for _, f := range forms {
		m := model.Model{Ident: class.Ident{Form: f, ABI: 1, Version: 2, Pad: "1234567"}, Type: 0xffff, Machine: 0xfffe, Entry: 1<<32 - 1, Flags: 1<<32 - 2}
		h := ehdr.Plain(f)
		h.Type, h.Machine, h.Entry, h.Flags = 0xffff, 0xfffe, 1<<32-1, 1<<32-2
		s, _ := ehdr.Put(f, h)
		want := class.Ident{Form: f, ABI: 1, Version: 2}.Bytes() + s
		if got := mustWrite(t, m); got != want || len(got) != map[bool]int{false: 52, true: 64}[f.Wide] {
			t.Errorf("%v: Write = %q, want %q", f, got, want)
		}
		isCanonical(t, m)
		if l, e := Places(m); len(l) != 0 || e != api.OK {
			t.Errorf("%v: Places = %v, %v", f, l, e)
		}
	}
}

// P16.1, P16.2: parts that a file may have or not, and edges of their positions.
func TestParts(t *testing.T) {
	cases := map[string]func(m *model.Model){
		"first section alone":       func(m *model.Model) { m.Sections, m.Names = m.Sections[:1], 0 },
		"no sections":               func(m *model.Model) { m.Sections, m.Names = nil, 0 },
		"no segments":               func(m *model.Model) { m.Segments = nil },
		"empty lists":               func(m *model.Model) { m.Sections, m.Segments, m.Names = []model.Section{}, []model.Segment{}, 0 },
		"segments without bytes":    func(m *model.Model) { m.Segments = make([]model.Segment, 3) },
		"an empty image at the end": func(m *model.Model) { m.Segments[2].Data = "" },
		"an odd end": func(m *model.Model) {
			m.Sections, m.Names, m.Segments[0].Data = nil, 0, "12345"
			m.Segments[2].Data = ""
		},
		"no names": func(m *model.Model) {
			m.Names = 0
			for i := range m.Sections {
				m.Sections[i].Name = ""
			}
			m.Sections[shnames].Data = "data of what is no table of names"
		},
		"shared names":  func(m *model.Model) { m.Sections[symtab].Link = shnames },
		"only its name": func(m *model.Model) { m.Sections[symtab].Link, m.Sections[second].Link = shnames, shnames },
		"all names empty": func(m *model.Model) {
			for i := range m.Sections {
				m.Sections[i].Name = ""
				for k := range m.Sections[i].Syms {
					m.Sections[i].Syms[k].Name = ""
				}
			}
		},
		"a great alignment of nothing": func(m *model.Model) { m.Sections[bss].Align = 1 << 18; m.Sections[empty].Align = 1 << 19 },
		"a great alignment of data":    func(m *model.Model) { m.Sections[other].Align = 1 << 17 },
		"no alignments": func(m *model.Model) {
			for i := range m.Sections {
				m.Sections[i].Align = 0
			}
		},
		"alignments of 1": func(m *model.Model) {
			for i := 1; i < sections; i++ {
				m.Sections[i].Align = 1
			}
		},
		"empty sections": func(m *model.Model) {
			m.Sections[text].Data, m.Sections[dynsym].Data, m.Sections[other].Data = "", "", ""
			m.Sections[rel].Relocs, m.Sections[rela].Relocs = nil, nil
		},
		"a first symbol alone": func(m *model.Model) {
			m.Sections[symtab].Syms, m.Sections[symtab].Info = m.Sections[symtab].Syms[:1], 1
			m.Sections[rel].Relocs[0].Sym, m.Sections[group].Info = 0, 0
		},
		"no indices":        func(m *model.Model) { m.Sections[indices] = model.Section{Type: shdr.ProgBits} },
		"bytes of any kind": func(m *model.Model) { m.Sections[text].Data, m.Segments[0].Data = "\x00\xff\x80\n", "\xff\x00" },
		"many sections": func(m *model.Model) {
			l := make([]model.Section, api.MaxSections-sections)
			for i := range l {
				l[i] = model.Section{Type: shdr.ProgBits, Name: strings.Repeat("n", i%7), Data: strings.Repeat("d", i%5), Align: 1 << (i % 4)}
			}
			m.Sections = append(m.Sections, l...)
			m.Sections[symtab].Syms[1].Sect = api.MaxSections - 1
		},
		"many segments": func(m *model.Model) {
			m.Segments = slices.Repeat(m.Segments, api.MaxSegments)[:api.MaxSegments]
		},
		"many symbols": func(m *model.Model) {
			m.Sections[symtab].Syms = append(m.Sections[symtab].Syms, make([]model.Symbol, api.MaxSymbols-4)...)
			for k := 4; k < api.MaxSymbols; k++ {
				m.Sections[symtab].Syms[k] = model.Symbol{Name: strings.Repeat("s", k%9), Info: 0x10, Value: uint64(k), Sect: uint64(k % sections)}
			}
		},
		"many relocations": func(m *model.Model) {
			m.Sections[rela].Relocs = slices.Repeat(m.Sections[rela].Relocs, api.MaxRelocs)
		},
	}
	for name, change := range cases {
		for _, f := range forms {
			m := whole(f)
			change(&m)
			if !isCanonical(t, m) {
				_, e := Write(m)
				t.Errorf("%v: %s: Write = %v", f, name, e)
			}
		}
	}
}

// P16.1
func TestTexts(t *testing.T) {
	check := func(m model.Model, i int, want ...string) {
		t.Helper()
		if got := Texts(m, i); !slices.Equal(got, want) {
			t.Errorf("Texts(%d) = %q, want %q", i, got, want)
		}
	}
	names := []string{"symbols", ".names", ".text", "names", "indices", ".bss", ".rel", ".rela", "", "dynamic", "empty", "symbols", "s"}
	first, last := []string{"", "one", "text", ""}, []string{"", "two"}
	for _, f := range forms {
		m := whole(f)
		check(m, shnames, names...)
		check(m, symnames, slices.Concat(first, last)...)
		for _, i := range []int{null, symtab, text, indices, bss, rel, group, dynsym, empty, second, other, -1, sections, sections + 1, math.MaxInt, math.MinInt} {
			check(m, i)
		}
		m.Sections[symtab].Link = shnames
		check(m, shnames, slices.Concat(names, first)...)
		check(m, symnames, last...)
		m.Sections[second].Link = shnames
		check(m, shnames, slices.Concat(names, first, last)...)
		check(m, symnames)
		m.Names = 0
		check(m, shnames, slices.Concat(first, last)...)
		m.Sections[second].Type = shdr.DynSym
		check(m, shnames, first...)
		m.Names = symnames
		check(m, symnames, names...)
		m.Names = 1<<32 + shnames
		check(m, symnames)
	}
	check(model.Model{}, 0)
	check(model.Model{Sections: []model.Section{{}, {Type: shdr.SymTab, Syms: []model.Symbol{{}, {Name: "a"}}}}}, 0, "", "a") // no file has that
	check(model.Model{Names: 1, Sections: make([]model.Section, 2)}, 1, "")
	check(model.Model{Names: 1, Sections: []model.Section{{Name: "first"}, {Name: "second"}}}, 1, "second")
}

// P16.1: the first names are the last ones in the table.
func TestTableOfNames(t *testing.T) {
	for _, f := range forms {
		m := model.Model{Ident: class.Ident{Form: f}, Names: 2, Sections: []model.Section{
			{}, {Name: "c", Type: shdr.ProgBits}, {Name: "bc", Type: shdr.StrTab}, {Name: "a", Type: shdr.ProgBits}, {Name: "c", Type: shdr.ProgBits},
		}}
		s := mustWrite(t, m)
		at, _ := Places(m)
		if got := s[at[2] : at[2]+6]; got != "\x00a\x00bc\x00" {
			t.Errorf("%v: the table of names is %q", f, got)
		}
		isCanonical(t, m)
	}
}

// P1: what is given is not changed, and what is returned is new.
func TestArgumentsStay(t *testing.T) {
	for _, f := range forms {
		m := whole(f)
		Write(m)
		Size(m)
		l, _ := Places(m)
		texts := Texts(m, shnames)
		l[1], texts[0] = 99, "x"
		if !same(m, whole(f)) {
			t.Errorf("%v: the model is changed", f)
		}
		if n, _ := Places(m); n[1] == 99 {
			t.Errorf("%v: Places has what was changed", f)
		}
	}
}
