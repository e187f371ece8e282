package place

import (
	"math"
	"math/rand"
	"strings"
	"testing"

	"graver/api"
	"graver/class"
	"graver/ehdr"
	"graver/model"
	"graver/phdr"
	"graver/relrec"
	"graver/shdr"
	"graver/symrec"
)

// field of a file: how many bytes it has (0 stands for a word), where it is in
// the model or the place, and how it is given to a draft.
type field struct {
	name string
	size int
	of   func(m *model.Model, p *Place) *uint64
	give func(d *draft, n uint64)
}

// headerFields are those of the headers that a model has.
func headerFields() []field {
	l := []field{
		{"Type", 2, func(m *model.Model, p *Place) *uint64 { return &m.Type }, func(d *draft, n uint64) { d.head.Type = n }},
		{"Machine", 2, func(m *model.Model, p *Place) *uint64 { return &m.Machine }, func(d *draft, n uint64) { d.head.Machine = n }},
		{"Entry", 0, func(m *model.Model, p *Place) *uint64 { return &m.Entry }, func(d *draft, n uint64) { d.head.Entry = n }},
		{"Flags", 4, func(m *model.Model, p *Place) *uint64 { return &m.Flags }, func(d *draft, n uint64) { d.head.Flags = n }},
	}
	section := func(i int, name string, size int, of func(x *model.Section) *uint64, give func(x *shdr.Section) *uint64) {
		l = append(l, field{"section's " + name, size,
			func(m *model.Model, p *Place) *uint64 { return of(&m.Sections[i]) },
			func(d *draft, n uint64) { *give(&d.heads[i]) = n }})
	}
	for _, i := range []int{text, other} {
		l = append(l, field{"section's Type", 4,
			func(m *model.Model, p *Place) *uint64 { return &m.Sections[i].Type },
			func(d *draft, n uint64) {
				if d.heads[i].Type = n; n == shdr.Null {
					d.bodies[i] = strings.Repeat("\x00", len(d.bodies[i]))
				}
			}})
	}
	for _, i := range []int{text, other, shnames, bss, empty} {
		section(i, "Link", 4, func(x *model.Section) *uint64 { return &x.Link }, func(x *shdr.Section) *uint64 { return &x.Link })
	}
	for i := 1; i < sections; i++ {
		section(i, "Flags", 0, func(x *model.Section) *uint64 { return &x.Flags }, func(x *shdr.Section) *uint64 { return &x.Flags })
		section(i, "Addr", 0, func(x *model.Section) *uint64 { return &x.Addr }, func(x *shdr.Section) *uint64 { return &x.Addr })
		section(i, "Info", 4, func(x *model.Section) *uint64 { return &x.Info }, func(x *shdr.Section) *uint64 { return &x.Info })
		section(i, "Align", 0, func(x *model.Section) *uint64 { return &x.Align }, func(x *shdr.Section) *uint64 { return &x.Align })
		section(i, "EntSize", 0, func(x *model.Section) *uint64 { return &x.EntSize }, func(x *shdr.Section) *uint64 { return &x.EntSize })
	}
	for i := range 3 {
		segment := func(name string, size int, of func(x *model.Segment) *uint64, give func(d *draft) *uint64) {
			l = append(l, field{"segment's " + name, size,
				func(m *model.Model, p *Place) *uint64 { return of(&m.Segments[i]) },
				func(d *draft, n uint64) { *give(d) = n }})
		}
		segment("Type", 4, func(x *model.Segment) *uint64 { return &x.Type }, func(d *draft) *uint64 { return &d.segments[i].Type })
		segment("Flags", 4, func(x *model.Segment) *uint64 { return &x.Flags }, func(d *draft) *uint64 { return &d.segments[i].Flags })
		segment("VAddr", 0, func(x *model.Segment) *uint64 { return &x.VAddr }, func(d *draft) *uint64 { return &d.segments[i].VAddr })
		segment("PAddr", 0, func(x *model.Segment) *uint64 { return &x.PAddr }, func(d *draft) *uint64 { return &d.segments[i].PAddr })
		segment("MemSize", 0, func(x *model.Segment) *uint64 { return &x.MemSize }, func(d *draft) *uint64 { return &d.segments[i].MemSize })
		segment("Align", 0, func(x *model.Segment) *uint64 { return &x.Align }, func(d *draft) *uint64 { return &d.segments[i].Align })
	}
	return l
}

// placeFields are those of the headers that only a place has.
func placeFields() []field {
	l := []field{
		{"Version", 4, func(m *model.Model, p *Place) *uint64 { return &p.Header.Version }, func(d *draft, n uint64) { d.head.Version = n }},
		{"Ehsize", 2, func(m *model.Model, p *Place) *uint64 { return &p.Header.Ehsize }, func(d *draft, n uint64) { d.head.Ehsize = n }},
		{"Phentsize", 2, func(m *model.Model, p *Place) *uint64 { return &p.Header.Phentsize }, func(d *draft, n uint64) { d.head.Phentsize = n }},
		{"Shentsize", 2, func(m *model.Model, p *Place) *uint64 { return &p.Header.Shentsize }, func(d *draft, n uint64) { d.head.Shentsize = n }},
		{"Shstrndx", 2, func(m *model.Model, p *Place) *uint64 { return &p.Header.Shstrndx }, func(d *draft, n uint64) { d.head.Shstrndx = n }},
		{"NoBits' Offset", 0, func(m *model.Model, p *Place) *uint64 { return &p.Sections[bss].Offset }, func(d *draft, n uint64) { d.heads[bss].Offset = n }},
		{"Null's Offset", 0, func(m *model.Model, p *Place) *uint64 { return &p.Sections[empty].Offset }, func(d *draft, n uint64) { d.heads[empty].Offset = n }},
		{"Null's Size", 0, func(m *model.Model, p *Place) *uint64 { return &p.Sections[empty].Size }, func(d *draft, n uint64) { d.heads[empty].Size = n }},
		{"empty segment's Offset", 0, func(m *model.Model, p *Place) *uint64 { return &p.Segments[2].Offset }, func(d *draft, n uint64) { d.segments[2].Offset = n }},
	}
	first := func(name string, size int, of func(x *shdr.Section) *uint64) {
		l = append(l, field{"first section's " + name, size,
			func(m *model.Model, p *Place) *uint64 { return of(&p.Sections[0]) },
			func(d *draft, n uint64) { *of(&d.heads[0]) = n }})
	}
	first("Type", 4, func(x *shdr.Section) *uint64 { return &x.Type })
	first("Flags", 0, func(x *shdr.Section) *uint64 { return &x.Flags })
	first("Addr", 0, func(x *shdr.Section) *uint64 { return &x.Addr })
	first("Offset", 0, func(x *shdr.Section) *uint64 { return &x.Offset })
	first("Size", 0, func(x *shdr.Section) *uint64 { return &x.Size })
	first("Link", 4, func(x *shdr.Section) *uint64 { return &x.Link })
	first("Info", 4, func(x *shdr.Section) *uint64 { return &x.Info })
	first("Align", 0, func(x *shdr.Section) *uint64 { return &x.Align })
	first("EntSize", 0, func(x *shdr.Section) *uint64 { return &x.EntSize })
	for i := range sections {
		l = append(l, field{"section's Name", 4,
			func(m *model.Model, p *Place) *uint64 { return &p.Sections[i].Name },
			func(d *draft, n uint64) { d.heads[i].Name = n }})
	}
	return l
}

// symbol changes the record of symbol k.
func (d *draft) symbol(k int, change func(y *symrec.Symbol)) {
	size, s := symrec.Size(d.Form), d.bodies[symtab]
	y, _ := symrec.Read(d.Form, s[k*size:])
	change(&y)
	rec, _ := symrec.Put(d.Form, y)
	d.bodies[symtab] = s[:k*size] + rec + s[(k+1)*size:]
}

// reloc changes the record of relocation k of section i.
func (d *draft) reloc(i, k int, change func(y *relrec.Reloc)) {
	addend := i == rela
	l, _ := relrec.ReadAll(d.Form, addend, d.bodies[i])
	change(&l[k])
	d.bodies[i], _ = relrec.PutAll(d.Form, addend, l...)
}

// bodyFields are those of symbols, relocations and groups.
func bodyFields(f class.Form) []field {
	var l []field
	symbol := func(k int, name string, size int, of func(x *model.Symbol) *uint64, give func(y *symrec.Symbol) *uint64) {
		l = append(l, field{"symbol's " + name, size,
			func(m *model.Model, p *Place) *uint64 { return of(&m.Sections[symtab].Syms[k]) },
			func(d *draft, n uint64) { d.symbol(k, func(y *symrec.Symbol) { *give(y) = n }) }})
	}
	for _, k := range []int{0, 1, 3, 5} {
		symbol(k, "Info", 1, func(x *model.Symbol) *uint64 { return &x.Info }, func(y *symrec.Symbol) *uint64 { return &y.Info })
		symbol(k, "Other", 1, func(x *model.Symbol) *uint64 { return &x.Other }, func(y *symrec.Symbol) *uint64 { return &y.Other })
		symbol(k, "Value", 0, func(x *model.Symbol) *uint64 { return &x.Value }, func(y *symrec.Symbol) *uint64 { return &y.Value })
		symbol(k, "Size", 0, func(x *model.Symbol) *uint64 { return &x.Size }, func(y *symrec.Symbol) *uint64 { return &y.Size })
		l = append(l, field{"symbol's Name", 4,
			func(m *model.Model, p *Place) *uint64 { return &p.Names[symtab][k] },
			func(d *draft, n uint64) { d.symbol(k, func(y *symrec.Symbol) { y.Name = n }) }})
	}
	for _, k := range []int{0, 1, 2, 5} {
		symbol(k, "Sect", 2, func(x *model.Symbol) *uint64 { return &x.Sect }, func(y *symrec.Symbol) *uint64 { return &y.Shndx })
	}
	for _, k := range []int{3, 4} {
		l = append(l, field{"far symbol's Sect", 4,
			func(m *model.Model, p *Place) *uint64 { return &m.Sections[symtab].Syms[k].Sect },
			func(d *draft, n uint64) {
				d.bodies[indices] = d.bodies[indices][:4*k] + d.numbers(n) + d.bodies[indices][4*k+4:]
			}})
	}
	for k := range 4 {
		l = append(l, field{"member", 4,
			func(m *model.Model, p *Place) *uint64 { return &m.Sections[group].Members[k] },
			func(d *draft, n uint64) {
				d.bodies[group] = d.bodies[group][:4*k] + d.numbers(n) + d.bodies[group][4*k+4:]
			}})
	}
	types, syms := 1, 3
	if f.Wide {
		types, syms = 4, 4
	}
	for _, i := range []int{rel, rela} {
		reloc := func(name string, size int, of func(y *relrec.Reloc) *uint64) {
			l = append(l, field{"relocation's " + name, size,
				func(m *model.Model, p *Place) *uint64 { return of(&m.Sections[i].Relocs[1]) },
				func(d *draft, n uint64) { d.reloc(i, 1, func(y *relrec.Reloc) { *of(y) = n }) }})
		}
		reloc("Offset", 0, func(y *relrec.Reloc) *uint64 { return &y.Offset })
		reloc("Type", types, func(y *relrec.Reloc) *uint64 { return &y.Type })
		reloc("Sym", syms, func(y *relrec.Reloc) *uint64 { return &y.Sym })
		if i == rela {
			reloc("Addend", 0, func(y *relrec.Reloc) *uint64 { return &y.Addend })
		}
	}
	return l
}

func fields(f class.Form) []field {
	return append(append(headerFields(), placeFields()...), bodyFields(f)...)
}

// P15.2: each number is written to its field, up to the greatest that it holds.
func TestWriteFields(t *testing.T) {
	for _, f := range forms {
		base := whole(t, f).bytes(t)
		for _, x := range fields(f) {
			size := x.size
			if size == 0 {
				size = f.Word()
			}
			most := uint64(math.MaxUint64) >> (64 - 8*size)
			for _, n := range []uint64{0, most - 1, most} {
				m, p := read(t, base)
				*x.of(&m, &p) = n
				d := whole(t, f)
				d.bytes(t)
				x.give(d, n)
				want := d.again(t)
				if got, e := Write(m, p); got != want || e != api.OK {
					t.Errorf("%v: %s %#x: Write = %v, as it should be: %v", f, x.name, n, e, got == want)
				}
			}
			for _, n := range []uint64{most + 1, math.MaxUint64 &^ most} {
				m, p := read(t, base)
				if *x.of(&m, &p) = n; size == 8 {
					continue
				}
				if got, e := Write(m, p); got != "" || e != api.ErrLarge {
					t.Errorf("%v: %s %#x: Write = %q, %v", f, x.name, n, got, e)
				}
			}
		}
	}
}

// again returns the bytes of a draft that was laid before, with the numbers
// that were changed since then: nothing is at another position.
func (d *draft) again(t *testing.T) string {
	t.Helper()
	b := []byte(d.out.String())
	copy(b, d.begin(t))
	for i, x := range d.heads {
		if d.bodies[i] != "" {
			copy(b[x.Offset:], d.bodies[i])
		}
		s, ok := shdr.Put(d.Form, x)
		copy(b[int(d.head.Shoff)+i*shdr.Size(d.Form):], s)
		if !ok {
			t.Fatal("a number of the draft does not fit into its field")
		}
	}
	for i := range d.segments {
		copy(b[int(d.head.Phoff)+i*len(d.segment(t, i)):], d.segment(t, i))
		if d.images[i] != "" {
			copy(b[d.segments[i].Offset:], d.images[i])
		}
	}
	return string(b)
}

// P15.2: what else a model has that a place gives room to.
func TestWriteBytes(t *testing.T) {
	cases := map[string][2]func(m *model.Model, p *Place, d *draft){
		"ident": {func(m *model.Model, p *Place, d *draft) {
			m.ABI, m.Version, d.ABI, d.Version = 255, 254, 255, 254
			p.ABI, p.Version = 77, 78
			p.Pad, d.Pad = "pad", "pad"
			m.Pad = "none of"
		}},
		"a longer pad": {func(m *model.Model, p *Place, d *draft) { p.Pad, d.Pad = "12345678", "1234567" }},
		"data": {func(m *model.Model, p *Place, d *draft) {
			m.Sections[text].Data, d.bodies[text] = "SOME\x00code", "SOME\x00code"
		}},
		"an image": {func(m *model.Model, p *Place, d *draft) {
			m.Segments[1].Data, d.images[1] = "ANOTHER 1NE", "ANOTHER 1NE"
		}},
		"names": {func(m *model.Model, p *Place, d *draft) {
			p.Tables[shnames] = strings.ToUpper(sectionNames)
			p.Tables[symnames] = strings.ToUpper(symbolNames)
			d.bodies[shnames], d.bodies[symnames] = p.Tables[shnames], p.Tables[symnames]
		}},
		"names in the model": {func(m *model.Model, p *Place, d *draft) {
			m.Sections[text].Name, m.Sections[symtab].Syms[1].Name = "no\x00where", "else\x00"
		}},
		"what the place has of the model": {func(m *model.Model, p *Place, d *draft) {
			p.Header.Type, p.Header.Machine, p.Header.Entry, p.Header.Flags = 1<<63, 1<<63, 1<<63, 1<<63
			x, y := &p.Sections[text], &p.Segments[0]
			x.Type, x.Flags, x.Addr, x.Link, x.Info, x.Align, x.EntSize = 1<<63, 1<<63, 1<<63, 1<<63, 1<<63, 1<<63, 1<<63
			y.Type, y.Flags, y.VAddr, y.PAddr, y.MemSize, y.Align = 1<<63, 1<<63, 1<<63, 1<<63, 1<<63, 1<<63
			p.File.Names = 99
		}},
		"what the model has of its first section": {func(m *model.Model, p *Place, d *draft) {
			x := &m.Sections[0]
			x.Name, x.Flags, x.Addr, x.Link, x.Info, x.Align, x.EntSize = "first", 1<<63, 1<<63, 1<<63, 1<<63, 1<<63, 1<<63
		}},
		"names that have no bytes": {func(m *model.Model, p *Place, d *draft) {
			m.Names, m.Sections[shnames].Data = bss, sectionNames
			m.Sections[symtab].Link, m.Sections[symnames].Data = 0, symbolNames
			p.Tables[bss], p.Tables[0] = "not written", "not written"
			p.Sections[bss].Offset, p.Sections[0].Offset = 0, 0
			d.heads[bss].Offset, d.heads[0].Offset, d.heads[symtab].Link = 0, 0, 0
		}},
		"the rest": {func(m *model.Model, p *Place, d *draft) { p.Rest[1].Text = strings.Repeat("r", len(p.Rest[1].Text)) },
			func(m *model.Model, p *Place, d *draft) {
				s := d.out.String()
				d.out.Reset()
				d.out.WriteString(strings.Replace(s, d.rest[1].Text, p.Rest[1].Text, 1))
			}},
		"no longer far": {func(m *model.Model, p *Place, d *draft) {
			p.Far[symtab][3], p.Far[symtab][1] = false, true
			d.symbol(3, func(y *symrec.Symbol) { y.Shndx = bss })
			d.symbol(1, func(y *symrec.Symbol) { y.Shndx = symrec.XIndex })
			d.bodies[indices] = d.numbers(0, text, 0, 0, 0, 0)
		}},
		"far and special": {func(m *model.Model, p *Place, d *draft) {
			p.Far[symtab][2] = true
			m.Sections[symtab].Syms[1].Special = true
			d.symbol(2, func(y *symrec.Symbol) { y.Shndx = symrec.XIndex })
			d.bodies[indices] = d.numbers(0, 0, symrec.Abs, bss, 0, 0)
		}},
		"more names than symbols": {func(m *model.Model, p *Place, d *draft) {
			p.Names[symtab], p.Far[symtab] = append(p.Names[symtab], 1<<63), append(p.Far[symtab], true)
		}},
	}
	for name, change := range cases {
		for _, f := range forms {
			d := whole(t, f)
			m, p := read(t, d.bytes(t))
			for _, give := range change {
				if give != nil {
					give(&m, &p, d)
				}
			}
			want := d.again(t)
			if got, e := Write(m, p); got != want || e != api.OK {
				t.Errorf("%v: %s: Write = %q, %v, want %q", f, name, got, e, want)
			}
		}
	}
}

// misfit makes a model have no place.
type misfit struct {
	name string
	give func(m *model.Model, p *Place)
}

func misfits() []misfit {
	return []misfit{
		{"a section more", func(m *model.Model, p *Place) { m.Sections = append(m.Sections, model.Section{}) }},
		{"a section less", func(m *model.Model, p *Place) { m.Sections = m.Sections[:sections-1] }},
		{"a place of a section more", func(m *model.Model, p *Place) { p.Sections = append(p.Sections, shdr.Section{}) }},
		{"no places of sections", func(m *model.Model, p *Place) { p.Sections = nil }},
		{"a segment more", func(m *model.Model, p *Place) { m.Segments = append(m.Segments, model.Segment{}) }},
		{"a segment less", func(m *model.Model, p *Place) { m.Segments = m.Segments[:2] }},
		{"no segments", func(m *model.Model, p *Place) { m.Segments = nil }},
		{"the other order", func(m *model.Model, p *Place) { m.Big = !m.Big }},
		{"the other words", func(m *model.Model, p *Place) { m.Wide = !m.Wide }},
		{"another order of the place", func(m *model.Model, p *Place) { p.Big = !p.Big }},
		{"other words of the place", func(m *model.Model, p *Place) { p.Wide = !p.Wide }},
		{"more data", func(m *model.Model, p *Place) { m.Sections[text].Data += "x" }},
		{"less data", func(m *model.Model, p *Place) { m.Sections[text].Data = "some cod" }},
		{"no data", func(m *model.Model, p *Place) { m.Sections[other].Data = "" }},
		{"a symbol more", func(m *model.Model, p *Place) {
			m.Sections[symtab].Syms = append(m.Sections[symtab].Syms, model.Symbol{})
			p.Names[symtab], p.Far[symtab] = append(p.Names[symtab], 0), append(p.Far[symtab], false)
		}},
		{"a symbol less", func(m *model.Model, p *Place) { m.Sections[symtab].Syms = m.Sections[symtab].Syms[:5] }},
		{"an index less", func(m *model.Model, p *Place) { p.Sections[indices].Size -= 4 }},
		{"half a relocation", func(m *model.Model, p *Place) { p.Sections[rel].Size++ }},
		{"a relocation more", func(m *model.Model, p *Place) {
			m.Sections[rela].Relocs = append(m.Sections[rela].Relocs, relrec.Reloc{})
		}},
		{"a relocation less", func(m *model.Model, p *Place) { m.Sections[rel].Relocs = m.Sections[rel].Relocs[:1] }},
		{"relocations with addends", func(m *model.Model, p *Place) { m.Sections[rel].Type = shdr.Rela }},
		{"a member more", func(m *model.Model, p *Place) { m.Sections[group].Members = append(m.Sections[group].Members, 0) }},
		{"no members", func(m *model.Model, p *Place) { m.Sections[group].Members = nil }},
		{"another size in memory", func(m *model.Model, p *Place) { m.Sections[bss].Size-- }},
		{"another size in the place", func(m *model.Model, p *Place) { p.Sections[bss].Size = 0 }},
		{"another table of names", func(m *model.Model, p *Place) { p.Tables[symnames] += "\x00" }},
		{"no tables of names", func(m *model.Model, p *Place) { p.Tables = nil }},
		{"too few tables of names", func(m *model.Model, p *Place) { p.Tables = p.Tables[:shnames] }},
		{"no table of names", func(m *model.Model, p *Place) { m.Names = 0 }},
		{"data that become names", func(m *model.Model, p *Place) { m.Sections[symtab].Link = text }},
		{"a longer image", func(m *model.Model, p *Place) { m.Segments[0].Data += "x" }},
		{"an image of nothing", func(m *model.Model, p *Place) { m.Segments[2].Data = "x" }},
		{"no image", func(m *model.Model, p *Place) { m.Segments[1].Data = "" }},
		{"no symbols for indices", func(m *model.Model, p *Place) { m.Sections[indices].Link = text }},
		{"no table for indices", func(m *model.Model, p *Place) { m.Sections[indices].Link = 1 << 63 }},
		{"no names of symbols", func(m *model.Model, p *Place) { p.Names = nil }},
		{"too few names of symbols", func(m *model.Model, p *Place) { p.Names[symtab] = p.Names[symtab][:5] }},
		{"too few lists of far ones", func(m *model.Model, p *Place) { p.Far = p.Far[:symtab] }},
		{"too few far ones", func(m *model.Model, p *Place) { p.Far[symtab] = p.Far[symtab][:5] }},
		{"a size below 0", func(m *model.Model, p *Place) { p.Size = -1 }},
		{"the least size", func(m *model.Model, p *Place) { p.Size = math.MinInt }},
		{"the greatest size", func(m *model.Model, p *Place) { p.Size = math.MaxInt }},
		{"a size of no file", func(m *model.Model, p *Place) { p.Size = api.MaxFile + 1 }},
	}
}

// P15.2: ErrArg comes before ErrLarge, wherever the number is.
func TestWriteWithoutPlace(t *testing.T) {
	for _, f := range forms {
		s := whole(t, f).bytes(t)
		for _, x := range misfits() {
			for _, large := range []uint64{0, 1 << 63} {
				m, p := read(t, s)
				m.Type, m.Sections[shnames].Info, m.Sections[symtab].Syms[1].Info = large, large, large
				x.give(&m, &p)
				if got, e := Write(m, p); got != "" || e != api.ErrArg {
					t.Errorf("%v: %s: Write = %q, %v", f, x.name, got, e)
				}
			}
		}
	}
	for _, f := range forms[1:] {
		if _, e := Write(model.Model{Ident: class.Ident{Form: f}}, Place{}); e != api.ErrArg {
			t.Errorf("%v: Write of nothing at another form's place = %v", f, e)
		}
	}
}

// P15.2: an Addend of a relocation without one fits nowhere.
func TestWriteAddendOfRel(t *testing.T) {
	for _, f := range forms {
		m, p := read(t, whole(t, f).bytes(t))
		m.Sections[rel].Relocs[0].Addend = 1
		if got, e := Write(m, p); got != "" || e != api.ErrLarge {
			t.Errorf("%v: Write = %q, %v", f, got, e)
		}
	}
}

// P15.2: what becomes a NoBits or a Null has no bytes, and there is nothing
// else where they were.
func TestWriteWithoutBody(t *testing.T) {
	for _, f := range forms {
		for _, kind := range []uint64{shdr.NoBits, shdr.Null} {
			d := whole(t, f)
			m, p := read(t, d.bytes(t))
			x := &m.Sections[text]
			x.Type, x.Size = kind, 9
			if kind == shdr.Null {
				x.Size = 1 << 63 // is not looked at
			}
			d.heads[text].Type, d.bodies[text] = kind, strings.Repeat("\x00", 9)
			want := d.again(t)
			if got, e := Write(m, p); got != want || e != api.OK {
				t.Errorf("%v: type %d: Write = %q, %v, want %q", f, kind, got, e, want)
			}
		}
	}
}

// P15.2: what was a NoBits can get bytes: they are only as far as there is a
// file.
func TestWriteWithNewBody(t *testing.T) {
	for _, f := range forms {
		d := whole(t, f)
		d.heads[bss].Size = 4
		s := d.bytes(t)
		for _, c := range []struct {
			at   uint64
			from int
			put  string
		}{
			{0, 0, "data"}, {uint64(len(s) - 4), len(s) - 4, "data"}, {uint64(len(s) - 1), len(s) - 1, "d"},
			{uint64(len(s)), 0, ""}, {1<<32 - 1, 0, ""},
		} {
			m, p := read(t, s)
			m.Sections[bss].Type, m.Sections[bss].Size, m.Sections[bss].Data = shdr.ProgBits, 0, "data"
			d.heads[bss].Type, d.heads[bss].Offset = shdr.ProgBits, c.at
			p.Sections[bss].Offset = c.at
			b := []byte(d.again(t))
			copy(b[c.from:], c.put)
			if got, e := Write(m, p); got != string(b) || e != api.OK {
				t.Errorf("%v: at %d: Write = %q, %v, want %q", f, c.at, got, e, b)
			}
		}
	}
}

// P15.2: where parts are on one another, the later one has the bytes.
func TestWriteOnOneAnother(t *testing.T) {
	for _, f := range forms {
		word := uint64(f.Word())
		m := model.Model{
			Ident:    class.Ident{Form: f, ABI: 1},
			Sections: []model.Section{{}, {Type: 1, Data: "11"}, {Type: 1, Data: "22"}, {Type: 1, Data: "3"}},
			Segments: []model.Segment{{Type: 0x55555555, Data: "44"}, {Data: "5"}},
		}
		p := Place{Size: 1000, Rest: []Chunk{{At: 0, Text: strings.Repeat("r", 900)}, {At: 1, Text: "s"}, {At: 899, Text: "tt"}}}
		p.Form, p.Header = f, ehdr.Plain(f)
		// The table of segments is on the third header of that of sections, and
		// that on the last byte of the header of the file.
		p.Header.Shoff = p.Header.Ehsize - 1
		p.Header.Phoff = p.Header.Shoff + 2*uint64(shdr.Size(f))
		p.Sections = []shdr.Section{{Name: 0x77777777}, {Offset: 702, Size: 2}, {Offset: 703, Size: 2}, {Offset: 701, Size: 1}}
		p.Segments = make([]phdr.Segment, 2)
		p.Segments[0].Offset, p.Segments[0].FileSize = 704, 2
		p.Segments[1].Offset, p.Segments[1].FileSize = 5, 1 // on the ident
		got, e := Write(m, p)
		if e != api.OK || len(got) != p.Size {
			t.Fatalf("%v: Write has %d bytes, %v", f, len(got), e)
		}
		id := class.Ident{Form: f, ABI: 1}.Bytes()
		begin, table, end := int(p.Header.Shoff), int(p.Header.Phoff), int(p.Header.Shoff)+4*shdr.Size(f)
		segmentsEnd := table + 2*int(p.Header.Phentsize)
		head, _ := ehdr.Put(f, p.Header)
		name := f.Put(0x77777777, 4)
		for _, x := range []struct {
			what string
			at   int
			want string
		}{
			{"ident", 0, id[:5] + "5" + id[6:]},
			{"header", 16, head[:len(head)-1]},
			{"table of sections", begin, name + strings.Repeat("\x00", 4)},
			{"second header", begin + shdr.Size(f) + 4, f.Put(1, 4)},
			{"table of segments", table, "\x55\x55\x55\x55"},
			{"second segment's type", table + int(p.Header.Phentsize), "\x00\x00\x00\x00"},
			{"end of the table of sections", max(end, segmentsEnd) - int(word), strings.Repeat("\x00", int(word))},
			{"what is behind the tables", max(end, segmentsEnd), "rrrr"},
			{"sections", 700, "r3124" + "4r"},
			{"end of the rest", 898, "rtt" + strings.Repeat("\x00", 99)},
		} {
			if got[x.at:x.at+len(x.want)] != x.want {
				t.Errorf("%v: %s: %q, want %q", f, x.what, got[x.at:x.at+len(x.want)], x.want)
			}
		}
	}
}

// P1: a place that was never read.
func TestWriteAtOddPlaces(t *testing.T) {
	for _, f := range forms {
		d := whole(t, f)
		s := d.bytes(t)
		want := func(m model.Model, p Place, want string) {
			t.Helper()
			if got, e := Write(m, p); got != want || e != api.OK {
				t.Errorf("%v: Write = %q, %v, want %q", f, got, e, want)
			}
		}
		m, p := read(t, s)
		for _, size := range []int{0, 1, 15, 16, 40, len(s) - 1} {
			p.Size = size
			want(m, p, s[:size])
		}
		p.Size = len(s) + 3
		want(m, p, s+"\x00\x00\x00")
		p.Size = api.MaxFile
		want(m, p, s+strings.Repeat("\x00", api.MaxFile-len(s)))
		p.Size = len(s)
		for _, x := range []Chunk{{At: -1, Text: "abc"}, {At: math.MinInt, Text: "a"}, {At: math.MaxInt, Text: "a"}, {At: len(s), Text: "a"}, {At: 5}} {
			m, q := read(t, s)
			q.Rest = append(q.Rest, x)
			want(m, q, s)
		}
		q := Place{}
		q.Form = f
		want(model.Model{Ident: class.Ident{Form: f}}, q, "")
	}
}

// P1
func TestWriteKeepsItsArguments(t *testing.T) {
	for _, f := range forms {
		s := whole(t, f).bytes(t)
		m, p := read(t, s)
		Write(m, p)
		Body(m, symtab, p.Names[symtab], p.Far[symtab])
		if n, q := read(t, s); !same(m, n) || !same(p, q) {
			t.Errorf("%v: Write changes what it is given", f)
		}
	}
}

// P1: whatever a model and a place made by hand are, each of the two results
// that Write has is one of those that the chapter tells.
func TestWriteAnything(t *testing.T) {
	r := rand.New(rand.NewSource(18))
	any := []uint64{0, 1, 2, 3, 4, 8, 9, 17, 18, 40, 300, 0xffff, 1 << 31, 1 << 32, 1 << 63, math.MaxUint64}
	results := map[api.Errno]int{}
	for range 20000 {
		f := forms[r.Intn(len(forms))]
		m, p := read(t, whole(t, f).bytes(t))
		for range 1 + r.Intn(4) {
			i, n := r.Intn(sections), any[r.Intn(len(any))]
			switch r.Intn(10) {
			case 0:
				m.Sections[i].Type = n
			case 1:
				m.Sections[i].Link = n
			case 2:
				m.Names = n
			case 3:
				p.Sections[i].Offset = n
			case 4:
				p.Sections[i].Size = n
			case 5:
				p.Header.Shoff, p.Header.Phoff = n, any[r.Intn(len(any))]
			case 6:
				p.Names, p.Far = p.Names[:r.Intn(len(p.Names)+1)], p.Far[:r.Intn(len(p.Far)+1)]
			case 7:
				p.Tables = p.Tables[:r.Intn(len(p.Tables)+1)]
			case 8:
				p.Segments[r.Intn(3)].Offset = n
			case 9:
				p.Size = int(n)
			}
		}
		s, e := Write(m, p)
		if results[e]++; e == api.OK && len(s) != p.Size || e != api.OK && s != "" {
			t.Errorf("Write = %d bytes, %v, Size %d", len(s), e, p.Size)
		}
		for i := -1; i <= sections; i++ {
			if s, ok := Body(m, i, nil, nil); !ok && s != "" {
				t.Errorf("Body = %q", s)
			}
		}
	}
	if len(results) != 3 || results[api.OK] < 1000 || results[api.ErrArg] < 1000 || results[api.ErrLarge] < 100 {
		t.Errorf("the results are %v", results)
	}
}
