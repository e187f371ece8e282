package check

import (
	"math"
	"slices"
	"testing"

	"graver/api"
	"graver/model"
	"graver/relrec"
	"graver/shdr"
)

// P14.2
func TestValid(t *testing.T) {
	for _, f := range forms {
		m := valid(f)
		if e := Model(m); e != api.OK {
			t.Errorf("%v: Model = %v", f, e)
		}
		if l := Faults(m); len(l) != 0 {
			t.Errorf("%v: Faults = %v", f, l)
		}
		for i := 1; i < sections; i++ {
			if e := Section(m, i); e != api.OK {
				t.Errorf("%v: Section(%d) = %v", f, i, e)
			}
		}
	}
}

// P14.2, P14.4: each fault alone, and each two together, of which the first
// counts; one section's error is not another one's.
func TestTheFirstFaultIsTold(t *testing.T) {
	l := faults()
	for _, f := range forms {
		for k, x := range l {
			m := valid(f)
			x.spoil(&m)
			tells(t, m, x, x)
			for _, y := range l[k+1:] {
				m := valid(f)
				y.spoil(&m)
				x.spoil(&m)
				tells(t, m, x, y)
			}
		}
	}
}

// tells holds what is told of a model with two faults, the first of which comes
// before the other one.
func tells(t *testing.T, m model.Model, x, y fault) {
	t.Helper()
	if e := Model(m); e != x.want {
		t.Errorf("%v: %d %s and %d %s: Model = %v, want %v", m.Form, x.section, x.name, y.section, y.name, e, x.want)
	}
	if x.section == 0 {
		return
	}
	if e := Section(m, x.section); e != x.want {
		t.Errorf("%v: %d %s and %d %s: Section = %v, want %v", m.Form, x.section, x.name, y.section, y.name, e, x.want)
	}
	if l := Faults(m); !slices.Contains(l, x.section) {
		t.Errorf("%v: %d %s and %d %s: Faults = %v", m.Form, x.section, x.name, y.section, y.name, l)
	}
}

// P14.4: Faults tells the same as Section of each one.
func TestFaults(t *testing.T) {
	l := faults()
	for _, f := range forms {
		for k, x := range l {
			m := valid(f)
			x.spoil(&m)
			l[(k*7+3)%len(l)].spoil(&m)
			var want []int
			for i := range m.Sections {
				if e := Section(m, i); e != api.OK && i > 0 {
					want = append(want, i)
				}
			}
			if got := Faults(m); !slices.Equal(got, want) {
				t.Errorf("%v: %s: Faults = %v, want %v", f, x.name, got, want)
			}
		}
	}
	if l := Faults(model.Model{}); len(l) != 0 {
		t.Errorf("Faults of nothing = %v", l)
	}
	if l := Faults(model.Model{Names: 5, Sections: notZero()[:1]}); len(l) != 0 {
		t.Errorf("Faults of a first section = %v", l)
	}
}

// P14.4
func TestSectionThatIsNone(t *testing.T) {
	m := valid(forms[0])
	for _, i := range []int{0, -1, sections, sections + 1, math.MaxInt, math.MinInt} {
		if e := Section(m, i); e != api.ErrIndex {
			t.Errorf("Section(%d) = %v", i, e)
		}
	}
	for _, i := range []int{0, 1} {
		if e := Section(model.Model{}, i); e != api.ErrIndex {
			t.Errorf("Section(%d) of nothing = %v", i, e)
		}
	}
}

// P14.4: what is wrong with the model beside its sections is no section's.
func TestSectionAlone(t *testing.T) {
	for _, f := range forms {
		for _, x := range faults() {
			m := valid(f)
			if x.spoil(&m); x.section > 0 {
				continue
			}
			if x.name == "first section" && m.Sections[0].Type == shdr.NoBits {
				m.Sections[0].Size = 1
			}
			// Where Names tell of another table, links to it are wrong.
			links := x.name == "names are no string table"
			if l := Faults(m); len(l) != 0 && !links {
				t.Errorf("%v: %s: Faults = %v", f, x.name, l)
			}
		}
	}
}

// P14.2
func TestCounts(t *testing.T) {
	many := func(sections, segments int) model.Model {
		return model.Model{Sections: make([]model.Section, sections), Segments: make([]model.Segment, segments)}
	}
	cases := []struct {
		m    model.Model
		want api.Errno
	}{
		{many(0, 0), api.OK},
		{many(1, 0), api.OK},
		{many(0, api.MaxSegments), api.OK},
		{many(0, api.MaxSegments+1), api.ErrCount},
		{many(api.MaxSections, api.MaxSegments), api.OK},
		{many(api.MaxSections+1, 0), api.ErrCount},
	}
	for _, c := range cases {
		if e := Model(c.m); e != c.want {
			t.Errorf("%d sections, %d segments: Model = %v, want %v", len(c.m.Sections), len(c.m.Segments), e, c.want)
		}
	}
	m := many(api.MaxSections+1, 0)
	m.Sections[0].Type = 1
	if e := Model(m); e != api.ErrCount {
		t.Errorf("too many sections, the first one wrong: Model = %v", e)
	}
	if l := Faults(m); len(l) != 0 {
		t.Errorf("too many sections: Faults = %v", l)
	}
}

// P14.2: the first section, when it is the only one.
func TestFirstSectionAlone(t *testing.T) {
	for _, x := range notZero() {
		for _, names := range []uint64{0, 1} {
			if e := Model(model.Model{Names: names, Sections: []model.Section{x}}); e != api.ErrType {
				t.Errorf("%+v: Model = %v", x, e)
			}
		}
	}
	if e := Model(model.Model{Names: 1, Sections: make([]model.Section, 1)}); e != api.ErrIndex {
		t.Errorf("Names that are no section: Model = %v", e)
	}
}

// P14.2
func TestCountsOfTables(t *testing.T) {
	for _, f := range forms {
		m := valid(f)
		m.Sections[rel].Relocs = make([]relrec.Reloc, api.MaxRelocs)
		m.Sections[rela].Relocs = make([]relrec.Reloc, api.MaxRelocs)
		m.Sections[symtab].Syms = append(m.Sections[symtab].Syms, make([]model.Symbol, api.MaxSymbols-5)...)
		for k := range m.Sections[symtab].Syms[5:] {
			m.Sections[symtab].Syms[5+k].Info = 0x10
		}
		if e := Model(m); e != api.OK {
			t.Errorf("%v: as many as can be: Model = %v", f, e)
		}
		m.Sections[rel].Relocs = append(m.Sections[rel].Relocs, relrec.Reloc{})
		m.Sections[rela].Relocs = append(m.Sections[rela].Relocs, relrec.Reloc{})
		m.Sections[symtab].Syms = append(m.Sections[symtab].Syms, model.Symbol{Info: 0x10})
		for _, i := range []int{symtab, rel, rela} {
			if e := Section(m, i); e != api.ErrCount {
				t.Errorf("%v: one more than can be: Section(%d) = %v", f, i, e)
			}
		}
	}
}

// P14.2: models without sections, or without names.
func TestNames(t *testing.T) {
	if e := Model(model.Model{Names: 1}); e != api.ErrIndex {
		t.Errorf("Names without sections: %v", e)
	}
	if e := Model(model.Model{Names: 1 << 63, Segments: make([]model.Segment, api.MaxSegments+1)}); e != api.ErrCount {
		t.Errorf("Names without sections, too many segments: %v", e)
	}
	for _, f := range forms {
		m := valid(f)
		m.Names = 0
		for i := range m.Sections {
			m.Sections[i].Name = ""
		}
		if e := Model(m); e != api.OK {
			t.Errorf("%v: no names: %v", f, e)
		}
		// The section that was Names is no table of names any more.
		m.Sections[shnames].Data = "data"
		m.Sections[text].Link = shnames
		if e := Model(m); e != api.OK {
			t.Errorf("%v: no table of names: %v", f, e)
		}
		m.Names = shnames
		if e := Model(m); e != api.ErrArg {
			t.Errorf("%v: a table of names with data: %v", f, e)
		}
		m.Sections[shnames].Data = ""
		if e := Model(m); e != api.ErrLink {
			t.Errorf("%v: a link to the table of names: %v", f, e)
		}
	}
}

// P14.2: a list may be empty and not nil.
func TestEmptyLists(t *testing.T) {
	m := model.Model{Sections: []model.Section{
		{Syms: []model.Symbol{}, Relocs: []relrec.Reloc{}, Members: []uint64{}},
		{Type: shdr.ProgBits, Syms: []model.Symbol{}, Relocs: []relrec.Reloc{}, Members: []uint64{}},
	}}
	if e := Model(m); e != api.OK {
		t.Errorf("Model = %v", e)
	}
}

// P14.2: what is no fault, though nearly one.
func TestEdges(t *testing.T) {
	for name, change := range map[string]func(l []model.Section){
		"link to itself":                    func(l []model.Section) { l[text].Link = text },
		"link to the last section":          func(l []model.Section) { l[bss].Link = other },
		"alignment 0":                       func(l []model.Section) { l[symtab].Align = 0 },
		"alignment 1":                       func(l []model.Section) { l[symtab].Align = 1 },
		"InfoLink to none":                  func(l []model.Section) { l[other].Info = 0 },
		"info that is none":                 func(l []model.Section) { l[text].Flags = 1<<64 - 1 - shdr.InfoLink; l[text].Info = 1 << 63 },
		"relocations for the last section":  func(l []model.Section) { l[rel].Info, l[rela].Info = other, other },
		"relocations for a section of none": func(l []model.Section) { l[rel].Info, l[rel].Flags = 0, shdr.InfoLink },
		"relocations of no table":           func(l []model.Section) { l[rel].Link, l[rel].Relocs[0].Sym = 0, 0 },
		"no relocations":                    func(l []model.Section) { l[rel].Relocs, l[rela].Relocs, l[rel].Link = nil, nil, 0 },
		"the other one's symbols":           func(l []model.Section) { l[rela].Link, l[rela].Relocs[1].Sym = symtab, 4 },
		"a group of nothing":                func(l []model.Section) { l[group].Members = []uint64{0} },
		"a group's first number":            func(l []model.Section) { l[group].Members[0] = group },
		"a group of symbol 0":               func(l []model.Section) { l[group].Info = 0 },
		"no indices":                        func(l []model.Section) { l[indices] = model.Section{Type: shdr.ProgBits} },
		"a symbol at the last section":      func(l []model.Section) { l[symtab].Syms[1].Sect = other },
		"a symbol at the first section":     func(l []model.Section) { l[symtab].Syms[1].Sect = 0 },
		"names of sections and symbols":     func(l []model.Section) { l[symtab].Link = shnames },
		"one symbol": func(l []model.Section) {
			l[symtab].Syms, l[symtab].Info = make([]model.Symbol, 1), 1
			l[rel].Relocs[0].Sym, l[group].Info = 0, 0
		},
		"local symbols alone": func(l []model.Section) {
			l[symtab].Syms, l[symtab].Info = make([]model.Symbol, 9), 9
			l[rel].Relocs[0].Sym, l[group].Info = 8, 8
		},
	} {
		for _, f := range forms {
			m := valid(f)
			change(m.Sections)
			if e := Model(m); e != api.OK {
				t.Errorf("%v: %s: Model = %v", f, name, e)
			}
		}
	}
}

// P14.2: one section of indices alone links to a table of symbols.
func TestIndicesTwice(t *testing.T) {
	for _, f := range forms {
		m := valid(f)
		m.Sections[other] = m.Sections[indices]
		m.Sections[empty] = m.Sections[indices]
		if e := Model(m); e != api.ErrLink {
			t.Errorf("%v: Model = %v", f, e)
		}
		if l := Faults(m); !slices.Equal(l, []int{empty, other}) {
			t.Errorf("%v: Faults = %v", f, l)
		}
		m.Sections[other].EntSize = 8
		if e := Section(m, other); e != api.ErrSize {
			t.Errorf("%v: Section = %v", f, e)
		}
		m.Sections[indices] = model.Section{}
		if e := Section(m, empty); e != api.OK {
			t.Errorf("%v: the only indices: Section = %v", f, e)
		}
	}
}

// P14.2: a DynSym has as many symbols as its Data has whole ones.
func TestRelocsOfDynSym(t *testing.T) {
	for _, f := range forms {
		m := valid(f)
		data := m.Sections[dynsym].Data
		for n, want := range map[int]api.Errno{0: api.ErrReloc, len(data) / 3 * 2: api.ErrReloc, len(data): api.OK} {
			m.Sections[dynsym].Data = data[:n]
			if e := Section(m, rela); e != want {
				t.Errorf("%v: %d bytes of symbols: Section = %v, want %v", f, n, e, want)
			}
		}
		m.Sections[dynsym].Data = data + "."
		m.Sections[rela].Relocs[1].Sym = 2
		if e := Model(m); e != api.OK {
			t.Errorf("%v: three symbols: Model = %v", f, e)
		}
	}
}

// P14.1
func TestShape(t *testing.T) {
	types := []uint64{
		shdr.Null, shdr.ProgBits, shdr.SymTab, shdr.StrTab, shdr.Rela, shdr.Hash, shdr.Dynamic, shdr.Note,
		shdr.NoBits, shdr.Rel, 10, shdr.DynSym, shdr.Group, shdr.Indices, 19, 1<<32 + 2, 1<<64 - 1,
	}
	parts := []struct {
		name string
		give func(x *model.Section)
		have []uint64 // types that have it
		not  []uint64 // or, if there are none, types that do not have it
	}{
		{"Size", func(x *model.Section) { x.Size = 1 << 63 }, []uint64{shdr.NoBits}, nil},
		{"Data", func(x *model.Section) { x.Data = "\x00" }, nil, []uint64{shdr.SymTab, shdr.Rel, shdr.Rela, shdr.Group, shdr.Indices, shdr.NoBits, shdr.Null}},
		{"Syms", func(x *model.Section) { x.Syms = make([]model.Symbol, 1) }, []uint64{shdr.SymTab}, nil},
		{"Relocs", func(x *model.Section) { x.Relocs = make([]relrec.Reloc, 1) }, []uint64{shdr.Rel, shdr.Rela}, nil},
		{"Members", func(x *model.Section) { x.Members = make([]uint64, 1) }, []uint64{shdr.Group}, nil},
		{"Addend", func(x *model.Section) { x.Relocs = []relrec.Reloc{{}, {Addend: 1}} }, []uint64{shdr.Rela}, nil},
	}
	for _, kind := range types {
		for _, table := range []bool{false, true} {
			header := model.Section{Name: "\x00", Type: kind, Flags: 1<<64 - 1, Addr: 1, Link: 1 << 63, Info: 2, Align: 3, EntSize: 4}
			if !Shape(header, table) {
				t.Errorf("type %d, table %v: a header alone has no shape", kind, table)
			}
			for _, p := range parts {
				x := header
				p.give(&x)
				want := slices.Contains(p.have, kind)
				if p.not != nil {
					want = !slices.Contains(p.not, kind) && !table
				}
				if Shape(x, table) != want {
					t.Errorf("type %d, table %v, %s: Shape = %v", kind, table, p.name, !want)
				}
			}
		}
	}
}
