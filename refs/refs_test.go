package refs

import (
	"slices"
	"testing"

	"graver/model"
	"graver/relrec"
	"graver/shdr"
)

// The kinds have the numbers that the chapter gives them.
func TestKinds(t *testing.T) {
	if got := []int{Names, Link, Info, Member, Symbol}; !slices.Equal(got, []int{1, 2, 3, 4, 5}) {
		t.Errorf("the kinds are %v", got)
	}
}

// What the tests hold the package against is what is written out for whole.
func TestSpotsOfWhole(t *testing.T) {
	for _, f := range forms {
		m := whole(f)
		mustBeValid(t, m)
		l := slices.DeleteFunc(spots(m), func(x spot) bool { return x.n == 0 })
		if !slices.Equal(l, wholeSpots()) {
			t.Errorf("spots = %+v", l)
		}
	}
}

// P18.1: references to each section.
func TestSections(t *testing.T) {
	for _, f := range forms {
		m := whole(f)
		for i := 1; i < sections; i++ {
			if got, want := Sections(m, i), with(wholeSpots(), i); !slices.Equal(got, want) {
				t.Errorf("%v: Sections of %d = %+v, want %+v", f, i, got, want)
			}
		}
		for _, i := range []int{0, -1, -1 << 63, sections, 1<<63 - 1} {
			if got := Sections(m, i); len(got) != 0 {
				t.Errorf("%v: Sections of %d = %+v", f, i, got)
			}
		}
		if !same(m, whole(f)) {
			t.Error("Sections changed the model")
		}
	}
	if got := Sections(model.Model{}, 1); len(got) != 0 {
		t.Errorf("Sections of no sections = %+v", got)
	}
}

// P18.1: the order does not hang on what a section has at first.
func TestSectionsInOrder(t *testing.T) {
	for _, f := range forms {
		m := whole(f)
		m.Sections[group].Link = second
		m.Sections[group].Info = 0
		m.Sections[group].Members = []uint64{second, second, text, second}
		m.Sections[rel].Link, m.Sections[rel].Info = second, second
		m.Sections[rel].Relocs = nil
		m.Sections[bss].Link, m.Sections[bss].Info = second, second
		mustBeValid(t, m)
		want := []Ref{
			{Symbol, symtab, 5},
			{Link, bss, 0}, {Info, bss, 0},
			{Link, rel, 0}, {Info, rel, 0},
			{Link, group, 0}, {Member, group, 1}, {Member, group, 3},
			{Symbol, second, 1},
		}
		if got := Sections(m, second); !slices.Equal(got, want) {
			t.Errorf("%v: Sections = %+v, want %+v", f, got, want)
		}
	}
}

// P18.1: the Info of each type, with InfoLink and without.
func TestInfoIsASection(t *testing.T) {
	for kind := range uint64(40) {
		for _, flags := range []uint64{0, shdr.InfoLink, 1<<64 - 1, 1<<64 - 1 - shdr.InfoLink} {
			var want []Ref
			switch {
			case kind == shdr.SymTab || kind == shdr.Group:
			case kind == shdr.Rel || kind == shdr.Rela || flags&shdr.InfoLink != 0:
				want = []Ref{{Info, 1, 0}}
			}
			m := model.Model{Sections: []model.Section{{}, {Type: kind, Flags: flags, Info: 2}, {}}}
			if got := Sections(m, 2); !slices.Equal(got, want) {
				t.Errorf("Sections with a section of type %d, flags %x = %+v", kind, flags, got)
			}
		}
	}
}

// P18.1: references to each symbol.
func TestSymbols(t *testing.T) {
	for _, f := range forms {
		m := whole(f)
		for _, c := range []struct {
			table, k int
			want     []Ref
		}{
			{symtab, 0, []Ref{{Symbol, rel, 1}}},
			{symtab, 1, []Ref{{Info, group, 0}}},
			{symtab, 2, nil},
			{symtab, 3, []Ref{{Symbol, rel, 0}, {Symbol, rel, 3}}},
			{symtab, 4, nil},
			{symtab, 5, []Ref{{Symbol, rel, 2}}},
			{dynsym, 0, []Ref{{Symbol, rela, 1}}},
			{dynsym, 1, []Ref{{Symbol, rela, 2}}},
			{dynsym, 2, []Ref{{Symbol, rela, 0}}},
			{second, 0, nil},
			{second, 1, nil},
		} {
			if got := Symbols(m, c.table, c.k); !slices.Equal(got, c.want) {
				t.Errorf("%v: Symbols of %d in %d = %+v, want %+v", f, c.k, c.table, got, c.want)
			}
		}
		// Those that link to no table have no symbols, not those of section 0.
		for _, table := range []int{0, -1, -1 << 63, text, other, sections, 1<<63 - 1} {
			for _, k := range []int{0, 1, -1} {
				if got := Symbols(m, table, k); len(got) != 0 {
					t.Errorf("%v: Symbols of %d in %d = %+v", f, k, table, got)
				}
			}
		}
		for _, k := range []int{-1, -1 << 63, 6, 1<<63 - 1} {
			if got := Symbols(m, symtab, k); len(got) != 0 {
				t.Errorf("%v: Symbols of %d = %+v", f, k, got)
			}
		}
		if !same(m, whole(f)) {
			t.Error("Symbols changed the model")
		}
	}
}

// P18.1: several sections with references to one symbol.
func TestSymbolsInOrder(t *testing.T) {
	for _, f := range forms {
		m := whole(f)
		m.Sections[rela].Link = symtab
		m.Sections[rela].Relocs = []relrec.Reloc{{Sym: 1}, {Sym: 5}, {Sym: 1}}
		m.Sections[rel].Relocs[0].Sym = 1
		m.Sections[free].Link = symtab
		m.Sections[free].Relocs[1].Sym = 1
		mustBeValid(t, m)
		want := []Ref{{Symbol, rela, 0}, {Symbol, rela, 2}, {Symbol, rel, 0}, {Info, group, 0}, {Symbol, free, 1}}
		if got := Symbols(m, symtab, 1); !slices.Equal(got, want) {
			t.Errorf("%v: Symbols = %+v, want %+v", f, got, want)
		}
		if got := Symbols(m, symtab, 0); !slices.Equal(got, []Ref{{Symbol, rel, 1}, {Symbol, free, 0}}) {
			t.Errorf("%v: Symbols of 0 = %+v", f, got)
		}
	}
}

// P18.4: sections to which nothing refers.
func TestUnused(t *testing.T) {
	for _, f := range forms {
		m := whole(f)
		if got := Unused(m); !slices.Equal(got, []int{indices, group, empty, free}) {
			t.Errorf("%v: Unused = %v", f, got)
		}
		m.Names = 0
		for i := range m.Sections {
			m.Sections[i].Name = ""
		}
		mustBeValid(t, m)
		if got := Unused(m); !slices.Equal(got, []int{shnames, indices, group, empty, free}) {
			t.Errorf("%v: Unused without Names = %v", f, got)
		}
	}
	for n, want := range [][]int{nil, nil, {1}, {1, 2}} {
		if got := Unused(model.Model{Sections: make([]model.Section, n)}); !slices.Equal(got, want) {
			t.Errorf("Unused of %d sections = %v", n, got)
		}
	}
}

// P18.4: symbols to which nothing refers.
func TestLoose(t *testing.T) {
	for _, f := range forms {
		m := whole(f)
		for table, want := range map[int][]int{symtab: {2, 4}, second: {1, 2, 3}} {
			if got := Loose(m, table); !slices.Equal(got, want) {
				t.Errorf("%v: Loose of %d = %v, want %v", f, table, got, want)
			}
		}
		for _, table := range []int{-1 << 63, -1, 0, shnames, rela, dynsym, text, group, sections, 1<<63 - 1} {
			if got := Loose(m, table); len(got) != 0 {
				t.Errorf("%v: Loose of %d = %v", f, table, got)
			}
		}
		m.Sections[rel].Relocs = nil
		if got := Loose(m, symtab); !slices.Equal(got, []int{2, 3, 4, 5}) {
			t.Errorf("%v: Loose without relocations = %v", f, got)
		}
	}
	if got := Loose(model.Model{}, 0); len(got) != 0 {
		t.Errorf("Loose of no sections = %v", got)
	}
}

// P18.5: each place is visited, in order, where 0 is, too.
func TestVisit(t *testing.T) {
	for _, f := range forms {
		m := whole(f)
		l := spots(m)
		var got, want []*uint64
		Visit(&m, func(n *uint64) { got = append(got, n) })
		for _, x := range l {
			want = append(want, at(&m, x.Ref))
		}
		if !slices.Equal(got, want) {
			t.Errorf("%v: Visit visits %d places, want %d, or in another order", f, len(got), len(want))
		}
		if !same(m, whole(f)) {
			t.Error("Visit changed the model")
		}
		// Names, the Link of each section, seven Infos, the members, and the
		// symbols that are not special.
		if len(got) != 1+sections+7+3+5+3 {
			t.Errorf("%v: %d places", f, len(got))
		}
	}
}

// P18.5: what is stored becomes the index, and nothing else changes.
func TestVisitStores(t *testing.T) {
	for _, f := range forms {
		m, want := whole(f), whole(f)
		for k, x := range spots(want) {
			*at(&want, x.Ref) = uint64(1000 + k)
		}
		k := uint64(1000)
		Visit(&m, func(n *uint64) { *n = k; k++ })
		if !same(m, want) {
			t.Errorf("%v: Visit makes %+v, want %+v", f, m, want)
		}
	}
}

// P18.5: models with nothing to visit, or nearly.
func TestVisitOfNothing(t *testing.T) {
	Visit(nil, func(n *uint64) { t.Error("a visit of no model") })
	Visit(nil, nil)
	m := whole(forms[0])
	Visit(&m, nil)
	if !same(m, whole(forms[0])) {
		t.Error("Visit of nobody changed the model")
	}
	for n, want := range []int{1, 2, 3} {
		m := model.Model{Sections: make([]model.Section, n)}
		got := 0
		Visit(&m, func(*uint64) { got++ })
		if got != want {
			t.Errorf("Visit of %d sections: %d places", n, got)
		}
	}
}

// P18.5: a model that is changed otherwise during its visit is visited to its
// end.
func TestVisitOfWhatIsChanged(t *testing.T) {
	m := whole(forms[0])
	n := 0
	Visit(&m, func(*uint64) {
		n++
		for i := range m.Sections {
			m.Sections[i].Syms, m.Sections[i].Members = m.Sections[i].Syms[:0], m.Sections[i].Members[:0]
		}
		m.Sections = append(m.Sections, model.Section{})[:len(m.Sections)/2]
	})
	if n == 0 || len(m.Sections) != 0 {
		t.Errorf("%d places, %d sections", n, len(m.Sections))
	}
}
