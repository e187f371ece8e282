package place

import (
	"math"
	"testing"

	"graver/class"
	"graver/model"
	"graver/relrec"
	"graver/shdr"
	"graver/symrec"
)

// P15.1: the bodies of a file are what it has there, but for tables of names.
func TestBodiesOfAFile(t *testing.T) {
	for _, f := range forms {
		d := whole(t, f)
		m, p := read(t, d.bytes(t))
		for i := range sections {
			want := d.bodies[i]
			if i == shnames || i == symnames {
				want = ""
			}
			far := p.Far[i]
			if i == indices {
				far = p.Far[symtab]
			}
			if got, ok := Body(m, i, p.Names[i], far); got != want || !ok {
				t.Errorf("%v: Body(%d) = %q, %v, want %q", f, i, got, ok, want)
			}
		}
	}
}

// P15.1: each type, in the byte order and with the words of the form.
func TestBody(t *testing.T) {
	far := []bool{false, true, true, true, true}
	for _, f := range forms {
		w := func(n uint64) string { return f.Put(n, f.Word()) }
		sym := func(name, info, other, shndx, value, size uint64) string {
			if f.Wide {
				return f.Put(name, 4) + f.Put(info, 1) + f.Put(other, 1) + f.Put(shndx, 2) + w(value) + w(size)
			}
			return f.Put(name, 4) + w(value) + w(size) + f.Put(info, 1) + f.Put(other, 1) + f.Put(shndx, 2)
		}
		info := func(symbol, kind uint64) string {
			if f.Wide {
				return w(symbol<<32 | kind)
			}
			return w(symbol<<8 | kind)
		}
		syms := []model.Symbol{
			{Name: "a", Info: 1, Other: 2, Value: 3, Size: 4, Sect: 5},
			{Info: 6, Other: 7, Value: 8, Size: 9, Sect: 1 << 31},
			{Sect: 0xfff1, Special: true},
			{Sect: 0},
		}
		relocs := []relrec.Reloc{{Offset: 1, Sym: 2, Type: 3}, {Offset: 4, Sym: 5, Type: 6}}
		addends := []relrec.Reloc{{Offset: 1, Sym: 2, Type: 3, Addend: 4}}
		numbers := f.Put(0, 4) + f.Put(1<<31, 4) + f.Put(0xfff1, 4) + f.Put(0, 4)
		cases := []struct {
			x    model.Section
			want string
		}{
			{model.Section{Type: shdr.SymTab, Link: 9, Syms: syms}, sym(10, 1, 2, 5, 3, 4) + sym(11, 6, 7, 0xffff, 8, 9) + sym(12, 0, 0, 0xffff, 0, 0) + sym(13, 0, 0, 0xffff, 0, 0)},
			{model.Section{Type: shdr.Indices, Link: 0}, numbers},
			{model.Section{Type: shdr.Rel, Relocs: relocs}, w(1) + info(2, 3) + w(4) + info(5, 6)},
			{model.Section{Type: shdr.Rela, Relocs: relocs}, w(1) + info(2, 3) + w(0) + w(4) + info(5, 6) + w(0)},
			{model.Section{Type: shdr.Rela, Relocs: addends}, w(1) + info(2, 3) + w(4)},
			{model.Section{Type: shdr.Group, Members: []uint64{1, 1<<32 - 1}}, f.Put(1, 4) + f.Put(1<<32-1, 4)},
			{model.Section{Type: shdr.NoBits, Size: 1 << 63, Data: "data", Syms: syms, Members: []uint64{1}}, ""},
			{model.Section{Data: "data", Syms: syms, Relocs: relocs, Members: []uint64{1 << 32}}, ""},
			{model.Section{Type: shdr.ProgBits, Data: "\x00data\xff", Syms: syms, Relocs: relocs, Members: []uint64{1 << 32}}, "\x00data\xff"},
			{model.Section{Type: shdr.DynSym, Data: "data", Syms: syms}, "data"},
			{model.Section{Type: shdr.StrTab, Data: "no table"}, "no table"},
			{model.Section{Type: 1 << 63, Data: "data"}, "data"},
			{model.Section{Type: 1<<32 + shdr.SymTab, Data: "data", Syms: syms}, "data"},
			{model.Section{Type: shdr.SymTab, Link: 9}, ""},
			{model.Section{Type: shdr.Rel}, ""}, {model.Section{Type: shdr.Group}, ""}, {model.Section{Type: shdr.ProgBits}, ""},
		}
		for _, c := range cases {
			m := model.Model{Ident: class.Ident{Form: f}, Sections: []model.Section{{Type: shdr.SymTab, Link: 9, Syms: syms}, c.x}}
			if got, ok := Body(m, 1, []uint64{10, 11, 12, 13, 1 << 63}, far); got != c.want || !ok {
				t.Errorf("%v: Body of %+v = %q, %v, want %q", f, c.x, got, ok, c.want)
			}
		}
	}
}

// P15.1: what a model has of a table of names does not count.
func TestBodyOfNames(t *testing.T) {
	x := model.Section{Type: shdr.StrTab, Data: "data"}
	for _, m := range []model.Model{
		{Sections: []model.Section{{}, {}, x}, Names: 2},
		{Sections: []model.Section{{}, {Type: shdr.SymTab, Link: 2}, x}},
	} {
		if got, ok := Body(m, 2, nil, nil); got != "" || !ok {
			t.Errorf("Body of a table of names of %+v = %q, %v", m, got, ok)
		}
	}
	if got, ok := Body(model.Model{Sections: []model.Section{{}, {Type: shdr.DynSym, Link: 2}, x}}, 2, nil, nil); got != "data" || !ok {
		t.Errorf("Body of what is no table of names = %q, %v", got, ok)
	}
}

// P15.1
func TestNoBody(t *testing.T) {
	for _, f := range forms {
		s := whole(t, f).bytes(t)
		bad := func(what string, i int, change func(m *model.Model, p *Place)) {
			t.Helper()
			m, p := read(t, s)
			change(&m, &p)
			names, far := []uint64(nil), p.Far[symtab]
			if i == symtab {
				names = p.Names[symtab]
			}
			if got, ok := Body(m, i, names, far); got != "" || ok {
				t.Errorf("%v: %s: Body = %q, %v", f, what, got, ok)
			}
		}
		for _, i := range []int{-1, sections, sections + 1, math.MaxInt, math.MinInt} {
			bad("no section", i, func(m *model.Model, p *Place) {})
		}
		bad("a name less", symtab, func(m *model.Model, p *Place) { p.Names[symtab] = p.Names[symtab][:5] })
		bad("no names", symtab, func(m *model.Model, p *Place) { p.Names[symtab] = nil })
		for _, i := range []int{symtab, indices} {
			bad("a far one less", i, func(m *model.Model, p *Place) { p.Far[symtab] = p.Far[symtab][:5] })
			bad("no far ones", i, func(m *model.Model, p *Place) { p.Far[symtab] = nil })
		}
		for _, link := range []uint64{0, shnames, text, indices, rel, sections, 1 << 32, 1 << 63, math.MaxUint64} {
			bad("no table", indices, func(m *model.Model, p *Place) { m.Sections[indices].Link = link })
		}
		bad("no symbols", indices, func(m *model.Model, p *Place) { m.Sections[symtab].Type = shdr.DynSym })
		for _, x := range bodyFields(f) {
			i := symtab
			switch x.name {
			case "far symbol's Sect":
				i = indices
			case "member":
				i = group
			case "relocation's Offset", "relocation's Type", "relocation's Sym", "relocation's Addend":
				i = rela
			}
			size := x.size
			if size == 0 {
				size = f.Word()
			}
			if size == 8 {
				continue
			}
			bad(x.name, i, func(m *model.Model, p *Place) {
				*x.of(m, p) = 1 << (8 * size)
				if i == rela { // the same one of each
					m.Sections[rela].Relocs = append(m.Sections[rela].Relocs, m.Sections[rel].Relocs...)
				}
			})
		}
		bad("an addend", rel, func(m *model.Model, p *Place) { m.Sections[rel].Relocs[0].Addend = 1 })
	}
	if got, ok := Body(model.Model{}, 0, nil, nil); got != "" || ok {
		t.Errorf("Body of nothing = %q, %v", got, ok)
	}
}

// P15.1: where a symbol is far, its record does not have its Sect.
func TestBodyOfFarSymbols(t *testing.T) {
	for _, f := range forms {
		m, p := read(t, whole(t, f).bytes(t))
		m.Sections[symtab].Syms[1].Sect = 1 << 16
		if _, ok := Body(m, symtab, p.Names[symtab], p.Far[symtab]); ok {
			t.Errorf("%v: a Sect of three bytes fits", f)
		}
		p.Far[symtab][1] = true
		s, ok := Body(m, symtab, p.Names[symtab], p.Far[symtab])
		if !ok {
			t.Fatalf("%v: a far symbol has no record", f)
		}
		if y, _ := symrec.Read(f, s[symrec.Size(f):]); y.Shndx != symrec.XIndex {
			t.Errorf("%v: the Shndx of a far symbol is %#x", f, y.Shndx)
		}
		p.Far[symtab][1] = false
		if s, ok := Body(m, indices, nil, p.Far[symtab]); !ok || s[4:8] != "\x00\x00\x00\x00" {
			t.Errorf("%v: Body of indices = %q, %v", f, s, ok)
		}
	}
}
