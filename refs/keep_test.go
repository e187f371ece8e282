package refs

import (
	"math/rand"
	"slices"
	"testing"

	"graver/api"
	"graver/check"
	"graver/model"
	"graver/relrec"
	"graver/shdr"
)

// keeps holds that Keep of these sections is what it has to be.
func keeps(t *testing.T, m model.Model, l []int) api.Errno {
	t.Helper()
	want, wantError := kept(m, l)
	got, e := Keep(m, l...)
	if e != wantError || !same(got, want) {
		t.Fatalf("Keep of %v = %v, want %v; %+v, want %+v", l, e, wantError, got, want)
	}
	if e == api.OK {
		mustBeValid(t, got)
	}
	return e
}

// keepsSymbols holds that KeepSymbols of these symbols is what it has to be.
func keepsSymbols(t *testing.T, m model.Model, table int, l []int) api.Errno {
	t.Helper()
	want, wantError := keptSymbols(m, table, l)
	got, e := KeepSymbols(m, table, l...)
	if e != wantError || !same(got, want) {
		t.Fatalf("KeepSymbols of %v in %d = %v, want %v; %+v, want %+v", l, table, e, wantError, got, want)
	}
	if e == api.OK {
		mustBeValid(t, got)
	}
	return e
}

// P18.2
func TestKeepOfAllIsTheModel(t *testing.T) {
	for _, f := range forms {
		m := whole(f)
		if got, e := Keep(m, all(sections)...); e != api.OK || !same(got, m) {
			t.Errorf("%v: Keep of all = %v, %+v", f, e, got)
		}
		for _, table := range []int{symtab, second} {
			n := len(m.Sections[table].Syms)
			if got, e := KeepSymbols(m, table, all(n)...); e != api.OK || !same(got, m) {
				t.Errorf("%v: KeepSymbols of all = %v, %+v", f, e, got)
			}
		}
	}
	for n := range 3 {
		m := model.Model{Entry: 7, Sections: make([]model.Section, n), Segments: []model.Segment{{Type: 1}}}
		if got, e := Keep(m, all(n)...); e != api.OK || !same(got, m) {
			t.Errorf("Keep of %d sections = %v, %+v", n, e, got)
		}
	}
}

// P18.2: an example by hand.
func TestKeep(t *testing.T) {
	for _, f := range forms {
		m := whole(f)
		got, e := Keep(m, null, shnames, symnames, text, bss, second, other)
		want := m.Copy()
		want.Sections = slices.Clone(want.Sections[:7])
		for k, i := range []int{null, shnames, symnames, text, bss, second, other} {
			want.Sections[k] = m.Copy().Sections[i]
		}
		want.Sections[4].Info = 3
		want.Sections[5].Link = 2
		want.Sections[5].Syms[1].Sect = 5
		want.Sections[5].Syms[2].Sect = 4
		want.Sections[6].Link = 6
		if e != api.OK || !same(got, want) {
			t.Errorf("%v: Keep = %v, %+v, want %+v", f, e, got, want)
		}
	}
}

// P18.2: all choices of sections of whole.
func TestKeepOfAnySections(t *testing.T) {
	fine := 0
	for mask := range 1 << (sections - 1) {
		m := whole(forms[mask%len(forms)])
		l := subset(sections, mask<<1)
		want, wantError := kept(m, l)
		got, e := Keep(m, l...)
		if e != wantError || e == api.OK && !same(got, want) || e != api.OK && !same(got, model.Model{}) {
			t.Fatalf("Keep of %v = %v, want %v; %+v, want %+v", l, e, wantError, got, want)
		}
		if e == api.OK {
			fine++
			mustBeValid(t, got)
		}
	}
	if fine < 100 {
		t.Errorf("only %d choices were kept", fine)
	}
}

// P18.2: each reference alone makes the section used.
func TestKeepOfUsed(t *testing.T) {
	for _, f := range forms {
		for _, x := range wholeSpots() {
			if x.n >= sections {
				continue
			}
			// Without all other references to the same section, and with it alone.
			m := whole(f)
			Visit(&m, func(n *uint64) {
				if *n == x.n && n != at(&m, x.Ref) {
					*n = 0
				}
			})
			if check.Model(m) != api.OK {
				m = whole(f)
			}
			want := api.ErrUsed
			if x.From == int(x.n) && len(Sections(m, x.From)) == 1 {
				want = api.OK
			}
			if _, e := Keep(m, all(sections, int(x.n))...); e != want {
				t.Errorf("%v: Keep without the section of %+v = %v, want %v", f, x, e, want)
			}
		}
		// A reference from a section that goes, too, does not count.
		if e := keeps(t, whole(f), all(sections, dynsym, rela, group)); e != api.OK {
			t.Errorf("%v: Keep = %v", f, e)
		}
	}
}

// P18.2: lists that are no choice of sections, even where what they lack is used.
func TestKeepOfWrongIndices(t *testing.T) {
	for _, f := range forms {
		for _, l := range [][]int{
			nil, {}, {1}, {-1}, {sections}, {0, 0}, {0, 1, 1}, {0, 2, 1}, {0, 1, 2, 0}, {1, 0}, {1, 2}, {0, -1}, {-1, 0},
			{0, sections}, {0, 1<<63 - 1}, {0, -1 << 63}, {0, 1 << 32}, append(all(sections), sections), append(all(sections), 0),
			all(sections, 0), append([]int{-1}, all(sections)...), slices.Repeat([]int{0}, sections),
		} {
			if got, e := Keep(whole(f), l...); e != api.ErrIndex || !same(got, model.Model{}) {
				t.Errorf("%v: Keep of %v = %v, %+v", f, l, e, got)
			}
		}
	}
	for _, l := range [][]int{{0}, {0, 1}, {1}, {-1}} {
		if got, e := Keep(model.Model{}, l...); e != api.ErrIndex || !same(got, model.Model{}) {
			t.Errorf("Keep of no sections, %v = %v, %+v", l, e, got)
		}
	}
}

// P18.3: an example by hand.
func TestKeepSymbols(t *testing.T) {
	for _, f := range forms {
		m := whole(f)
		got, e := KeepSymbols(m, symtab, 0, 1, 3, 5)
		want := m.Copy()
		x := &want.Sections[symtab]
		x.Syms = []model.Symbol{x.Syms[0], x.Syms[1], x.Syms[3], x.Syms[5]}
		x.Info = 2
		want.Sections[rel].Relocs[0].Sym, want.Sections[rel].Relocs[2].Sym, want.Sections[rel].Relocs[3].Sym = 2, 3, 2
		if e != api.OK || !same(got, want) {
			t.Errorf("%v: KeepSymbols = %v, %+v, want %+v", f, e, got, want)
		}

		got, e = KeepSymbols(m, second, 0)
		want = m.Copy()
		want.Sections[second].Syms = want.Sections[second].Syms[:1]
		if e != api.OK || !same(got, want) {
			t.Errorf("%v: KeepSymbols of the first one = %v, %+v, want %+v", f, e, got, want)
		}
	}
}

// P18.3: all choices of symbols, with each one used or not, and a group that
// tells another one.
func TestKeepOfAnySymbols(t *testing.T) {
	for _, f := range forms {
		m := whole(f)
		for mask := range 1 << 5 {
			for info := range uint64(6) {
				m.Sections[group].Info = info
				keepsSymbols(t, m, symtab, subset(6, mask<<1))
			}
		}
		for mask := range 1 << 3 {
			keepsSymbols(t, m, second, subset(4, mask<<1))
		}
		for _, loose := range []int{2, 4} {
			if e := keepsSymbols(t, whole(f), symtab, all(6, loose)); e != api.OK {
				t.Errorf("%v: KeepSymbols without %d = %v", f, loose, e)
			}
		}
		for _, used := range []int{1, 3, 5} {
			if e := keepsSymbols(t, whole(f), symtab, all(6, used)); e != api.ErrUsed {
				t.Errorf("%v: KeepSymbols without %d = %v", f, used, e)
			}
		}
	}
}

// P18.3: Info is counted anew whatever bits an Info of a symbol has beside its
// binding.
func TestKeepSymbolsCountsLocalOnes(t *testing.T) {
	for _, f := range forms {
		m := whole(f)
		m.Sections[second].Syms = []model.Symbol{{}, {Info: 0x0f}, {Info: 0x103}, {Info: 0}, {Info: 0x10}, {Info: 0xff}}
		m.Sections[second].Info = 4
		mustBeValid(t, m)
		for mask := range 1 << 5 {
			if e := keepsSymbols(t, m, second, subset(6, mask<<1)); e != api.OK {
				t.Errorf("%v: KeepSymbols = %v", f, e)
			}
		}
	}
}

// P18.3: what is no table of symbols, and lists that are no choice of symbols.
func TestKeepSymbolsOfWrongIndices(t *testing.T) {
	for _, f := range forms {
		m := whole(f)
		for _, table := range []int{-1 << 63, -1, null, shnames, rela, symnames, indices, text, rel, group, dynsym, empty, other, sections, 1<<63 - 1} {
			for _, l := range [][]int{nil, {0}, {0, 1}, {1}} {
				if got, e := KeepSymbols(m, table, l...); e != api.ErrType || !same(got, model.Model{}) {
					t.Errorf("%v: KeepSymbols of table %d = %v, %+v", f, table, e, got)
				}
			}
		}
		for _, l := range [][]int{
			nil, {1}, {-1}, {6}, {0, 0}, {0, 2, 1}, {0, 2, 2}, {1, 2}, {0, -1}, {0, 6}, {0, 1, 2, 3, 4, 5, 6}, {0, 1<<63 - 1}, {0, -1 << 63}, all(6, 0),
		} {
			if got, e := KeepSymbols(m, symtab, l...); e != api.ErrIndex || !same(got, model.Model{}) {
				t.Errorf("%v: KeepSymbols of %v = %v, %+v", f, l, e, got)
			}
		}
	}
	if got, e := KeepSymbols(model.Model{}, 0); e != api.ErrType || !same(got, model.Model{}) {
		t.Errorf("KeepSymbols of no sections = %v, %+v", e, got)
	}
}

// P18.2, P18.3: a model that is not valid has its own error, whatever is asked.
func TestKeepOfWrongModels(t *testing.T) {
	for _, f := range forms {
		for want, spoil := range map[api.Errno]func(m *model.Model){
			api.ErrCount:  func(m *model.Model) { m.Segments = make([]model.Segment, api.MaxSegments+1) },
			api.ErrType:   func(m *model.Model) { m.Sections[0].Align = 1 },
			api.ErrIndex:  func(m *model.Model) { m.Names = sections },
			api.ErrName:   func(m *model.Model) { m.Names = text },
			api.ErrAlign:  func(m *model.Model) { m.Sections[free].Align = 3 },
			api.ErrArg:    func(m *model.Model) { m.Sections[text].Size = 1 },
			api.ErrLink:   func(m *model.Model) { m.Sections[text].Link = sections },
			api.ErrInfo:   func(m *model.Model) { m.Sections[rel].Info = sections },
			api.ErrSymbol: func(m *model.Model) { m.Sections[second].Syms[0].Value = 1 },
			api.ErrReloc:  func(m *model.Model) { m.Sections[free].Relocs[0].Sym = 1 },
			api.ErrGroup:  func(m *model.Model) { m.Sections[group].Members[1] = group },
			api.ErrSize:   func(m *model.Model) { m.Sections[symtab].EntSize = 1 },
		} {
			for _, l := range [][]int{nil, {0}, {1}, {0, sections}, all(sections), all(6)} {
				m := whole(f)
				spoil(&m)
				if got, e := Keep(m, l...); e != want || !same(got, model.Model{}) {
					t.Errorf("%v: Keep of %v = %v, want %v", f, l, e, want)
				}
				for _, table := range []int{-1, 0, text, symtab} {
					if got, e := KeepSymbols(m, table, l...); e != want || !same(got, model.Model{}) {
						t.Errorf("%v: KeepSymbols of %v in %d = %v, want %v", f, l, table, e, want)
					}
				}
			}
		}
	}
}

// spoil stores something at everything that a model refers to.
func spoil(m *model.Model) {
	for i := range m.Sections {
		x := &m.Sections[i]
		x.Name += "?"
		for k := range x.Syms {
			x.Syms[k].Name += "?"
		}
		for k := range x.Relocs {
			x.Relocs[k].Sym += 1000
		}
		for k := range x.Members {
			x.Members[k] += 1000
		}
	}
	for i := range m.Segments {
		m.Segments[i].Data += "?"
	}
}

// P18.2, P18.3: a new model shares no list with the old one, which stays as it
// is, the spare room of its lists, too.
func TestKeepMakesNewModels(t *testing.T) {
	for _, f := range forms {
		makes := []func(m model.Model, l []int) (model.Model, api.Errno){
			func(m model.Model, l []int) (model.Model, api.Errno) { return Keep(m, l...) },
			func(m model.Model, l []int) (model.Model, api.Errno) { return KeepSymbols(m, symtab, l[:6]...) },
		}
		for _, keep := range makes {
			m := whole(f)
			m.Sections = slices.Grow(m.Sections, 9)
			m.Sections[symtab].Syms = slices.Grow(m.Sections[symtab].Syms, 9)
			spare, symbols := m.Sections[:sections+9], m.Sections[symtab].Syms[:15]
			l := all(sections)
			got, e := keep(m, l)
			if e != api.OK || !same(got, m) {
				t.Fatalf("%v: %v, %+v", f, e, got)
			}
			spoil(&got)
			got.Sections = append(got.Sections, model.Section{Name: "more"})
			got.Sections[symtab].Syms = append(got.Sections[symtab].Syms, model.Symbol{Name: "more"})
			if !same(m, whole(f)) || !same(spare[sections:], make([]model.Section, 9)) || !same(symbols[6:], make([]model.Symbol, 9)) {
				t.Errorf("%v: the old model became %+v", f, m)
			}
			if !slices.Equal(l, all(sections)) {
				t.Errorf("%v: the list became %v", f, l)
			}
		}
		// What is given up on has not been begun, either.
		m := whole(f)
		Keep(m, all(sections, text)...)
		KeepSymbols(m, symtab, all(6, 3)...)
		if !same(m, whole(f)) {
			t.Errorf("%v: the old model became %+v", f, m)
		}
	}
}

// some model of sections whose references are any that are valid.
func some(r *rand.Rand) model.Model {
	f := forms[r.Intn(len(forms))]
	for {
		m := whole(f)
		l := spots(m)
		for range 1 + r.Intn(8) {
			x := l[r.Intn(len(l))]
			if x.From > 0 && (x.Kind != Symbol || x.At > 0) {
				*at(&m, x.Ref) = uint64(r.Intn(sections))
			}
			y := &m.Sections[1+r.Intn(sections-1)]
			switch r.Intn(4) {
			case 0:
				y.Flags ^= shdr.InfoLink
			case 1:
				y.Info = uint64(r.Intn(sections))
			case 2:
				y.Relocs = slices.Clone(y.Relocs)
				for k := range y.Relocs {
					y.Relocs[k].Sym = uint64(r.Intn(4))
				}
			case 3:
				y.Link = uint64(r.Intn(sections))
			}
		}
		if check.Model(m) == api.OK {
			return m
		}
	}
}

// P18.1 to P18.5, of models with other references.
func TestSomeModels(t *testing.T) {
	r := rand.New(rand.NewSource(18))
	errors := map[api.Errno]int{}
	for range 500 {
		m := some(r)
		l := spots(m)
		var unused, visited []int
		for i := 1; i < sections; i++ {
			want := with(l, i)
			if got := Sections(m, i); !slices.Equal(got, want) {
				t.Errorf("Sections of %d = %+v, want %+v in %+v", i, got, want, m)
			}
			if len(want) == 0 {
				unused = append(unused, i)
				if e := keeps(t, m, all(sections, i)); e != api.OK {
					t.Errorf("Keep without an unused section = %v", e)
				}
			}
		}
		if got := Unused(m); !slices.Equal(got, unused) {
			t.Errorf("Unused = %v, want %v", got, unused)
		}
		Visit(&m, func(n *uint64) { visited = append(visited, int(*n)) })
		if !slices.EqualFunc(visited, l, func(n int, x spot) bool { return n == int(x.n) }) {
			t.Errorf("Visit = %v, want %v", visited, l)
		}
		for range 5 {
			errors[keeps(t, m, subset(sections, r.Int()|r.Int()))]++
		}
		for _, table := range []int{symtab, second} {
			someSymbols(t, m, table)
		}
	}
	if errors[api.OK] < 50 || errors[api.ErrUsed] < 50 {
		t.Errorf("Keep had these errors: %v", errors)
	}
}

func someSymbols(t *testing.T, m model.Model, table int) {
	t.Helper()
	l := symbolSpots(m, table)
	var loose []int
	for k := range m.Sections[table].Syms {
		want := with(l, k)
		if got := Symbols(m, table, k); !slices.Equal(got, want) {
			t.Errorf("Symbols of %d in %d = %+v, want %+v in %+v", k, table, got, want, m)
		}
		if k == 0 {
			continue
		}
		e := keepsSymbols(t, m, table, all(len(m.Sections[table].Syms), k))
		if len(want) == 0 {
			loose = append(loose, k)
		}
		if (e == api.OK) != (len(want) == 0) {
			t.Errorf("KeepSymbols without %d in %d = %v", k, table, e)
		}
	}
	if got := Loose(m, table); !slices.Equal(got, loose) {
		t.Errorf("Loose of %d = %v, want %v", table, got, loose)
	}
}

// P18.1 to P18.4: models as great as they can be, whose first section but one is
// a table of symbols.
func TestGreatModels(t *testing.T) {
	const last = api.MaxSections - 1
	m := model.Model{Names: 2, Sections: make([]model.Section, api.MaxSections)}
	m.Sections[1] = model.Section{Type: shdr.SymTab, Link: 2, EntSize: 16, Info: 1, Syms: make([]model.Symbol, api.MaxSymbols)}
	for k := range api.MaxSymbols - 1 {
		m.Sections[1].Syms[k+1] = model.Symbol{Info: 16, Sect: last}
	}
	m.Sections[2] = model.Section{Name: "names", Type: shdr.StrTab}
	m.Sections[last] = model.Section{Type: shdr.Rel, Link: 1, Info: last, EntSize: 8, Relocs: make([]relrec.Reloc, api.MaxRelocs)}
	for k := range api.MaxRelocs {
		m.Sections[last].Relocs[k].Sym = api.MaxSymbols - 1
	}
	mustBeValid(t, m)
	if got := Sections(m, last); len(got) != api.MaxSymbols || got[0] != (Ref{Symbol, 1, 1}) || got[len(got)-1] != (Ref{Info, last, 0}) {
		t.Errorf("Sections = %d references", len(got))
	}
	if got := Symbols(m, 1, api.MaxSymbols-1); len(got) != api.MaxRelocs || got[len(got)-1] != (Ref{Symbol, last, api.MaxRelocs - 1}) {
		t.Errorf("Symbols = %d references", len(got))
	}
	if got := Unused(m); len(got) != api.MaxSections-4 || got[0] != 3 {
		t.Errorf("Unused = %d sections", len(got))
	}
	if got := Loose(m, 1); len(got) != api.MaxSymbols-2 || got[0] != 1 {
		t.Errorf("Loose = %d symbols", len(got))
	}
	c, e := Keep(m, 0, 1, 2, last)
	if e != api.OK || len(c.Sections) != 4 || c.Sections[3].Info != 3 || c.Sections[1].Syms[api.MaxSymbols-1].Sect != 3 {
		t.Errorf("Keep = %v, %d sections", e, len(c.Sections))
	}
	c, e = KeepSymbols(c, 1, 0, api.MaxSymbols-1)
	if e != api.OK || len(c.Sections[1].Syms) != 2 || c.Sections[3].Relocs[api.MaxRelocs-1].Sym != 1 {
		t.Errorf("KeepSymbols = %v", e)
	}
}
