package refs

import (
	"fmt"
	"slices"
	"testing"

	"graver/api"
	"graver/check"
	"graver/class"
	"graver/model"
	"graver/order"
	"graver/relrec"
	"graver/shdr"
	"graver/symrec"
)

var forms = []class.Form{
	{},
	{Wide: true},
	{Order: order.Order{Big: true}},
	{Order: order.Order{Big: true}, Wide: true},
}

// The indices of the sections of whole.
const (
	null = iota
	shnames
	rela
	symtab
	symnames
	indices
	text
	bss
	rel
	group
	dynsym
	dynstr
	empty
	second
	other
	free
	sections
)

// whole is a model with a section of each type that layer 13 tells of, and with
// each kind of reference, forward and backward.
func whole(f class.Form) model.Model {
	symbols := uint64(symrec.Size(f))
	return model.Model{
		Ident: class.Ident{Form: f, ABI: 3, Version: 4, Pad: "pad"}, Type: 1, Machine: 62, Entry: 5, Flags: 9, Names: shnames,
		Sections: []model.Section{
			{},
			{Name: "names", Type: shdr.StrTab, Info: 9},
			{Name: "rela", Type: shdr.Rela, Link: dynsym, EntSize: uint64(relrec.Size(f, true)), Relocs: []relrec.Reloc{
				{Offset: 4, Sym: 2, Type: 7, Addend: 8}, {}, {Sym: 1},
			}},
			// Its Info is no index of a section, whatever its flags are.
			{Name: "symbols", Type: shdr.SymTab, Flags: shdr.InfoLink, Link: symnames, Info: 3, EntSize: symbols, Syms: []model.Symbol{
				{},
				{Name: "a", Info: 0x03, Sect: text},
				{Name: "b", Info: 0x0f, Sect: 0xfff1, Special: true},
				{Name: "a", Info: 0x12, Other: 1, Value: 2, Size: 3, Sect: other},
				{Name: "c", Info: 0x20},
				{Name: "d", Info: 0xf0, Sect: second},
			}},
			{Name: "symbols' names", Type: shdr.StrTab, Align: 1},
			// Its Info is no index, and no error, either.
			{Name: "indices", Type: shdr.Indices, Flags: shdr.InfoLink, Link: symtab, Info: 99, EntSize: 4},
			{Name: "text", Type: shdr.ProgBits, Flags: shdr.Alloc, Info: 3, Data: "data"},
			{Name: "bss", Type: shdr.NoBits, Flags: shdr.Alloc | shdr.InfoLink, Info: text, Size: 100},
			{Name: "rel", Type: shdr.Rel, Link: symtab, Info: text, EntSize: uint64(relrec.Size(f, false)), Relocs: []relrec.Reloc{
				{Offset: 1, Sym: 3, Type: 2}, {Offset: 2}, {Offset: 3, Sym: 5}, {Offset: 4, Sym: 3},
			}},
			// Its first number is no member, and its Info is a symbol's index.
			{Name: "group", Type: shdr.Group, Flags: shdr.InfoLink, Link: symtab, Info: 1, EntSize: 4, Members: []uint64{text, rel, rela, rel}},
			{Name: "dynamic symbols", Type: shdr.DynSym, Link: dynstr, Info: text, Data: string(make([]byte, 3*symbols))},
			{Name: "dynamic names", Type: shdr.StrTab, Data: "\x00"},
			{Name: "", Type: shdr.Null, Flags: 1<<64 - 1, Info: other},
			{Name: "second", Type: shdr.SymTab, Link: symnames, Info: 1, EntSize: symbols, Syms: []model.Symbol{
				{},
				{Name: "e", Info: 0x10, Sect: second},
				{Name: "f", Info: 0x10, Sect: bss},
				{Name: "g", Info: 0x10, Sect: 0xfff2, Special: true},
			}},
			{Name: "other", Type: 1 << 31, Flags: shdr.InfoLink, Link: other, Info: 0, Data: "\x00"},
			{Name: "free", Type: shdr.Rel, Link: 0, Info: 0, EntSize: uint64(relrec.Size(f, false)), Relocs: []relrec.Reloc{{}, {Type: 1}}},
		},
		Segments: []model.Segment{{Type: 1, Data: "segment"}},
	}
}

// spot of a model: a reference, and the index that is there.
type spot struct {
	Ref
	n uint64
}

// wholeSpots are the spots of whole where the index of a section can be, but
// for those where it is 0.
func wholeSpots() []spot {
	return []spot{
		{Ref{1, 0, 0}, shnames},
		{Ref{2, rela, 0}, dynsym},
		{Ref{2, symtab, 0}, symnames},
		{Ref{5, symtab, 1}, text},
		{Ref{5, symtab, 3}, other},
		{Ref{5, symtab, 5}, second},
		{Ref{2, indices, 0}, symtab},
		{Ref{3, indices, 0}, 99},
		{Ref{3, bss, 0}, text},
		{Ref{2, rel, 0}, symtab},
		{Ref{3, rel, 0}, text},
		{Ref{2, group, 0}, symtab},
		{Ref{4, group, 1}, rel},
		{Ref{4, group, 2}, rela},
		{Ref{4, group, 3}, rel},
		{Ref{2, dynsym, 0}, dynstr},
		{Ref{3, empty, 0}, other},
		{Ref{2, second, 0}, symnames},
		{Ref{5, second, 1}, second},
		{Ref{5, second, 2}, bss},
		{Ref{2, other, 0}, other},
	}
}

// spots of a model where the index of a section can be, kind by kind, and only
// then in order.
func spots(m model.Model) []spot {
	l := []spot{{Ref{Kind: 1}, m.Names}}
	for i, x := range m.Sections {
		l = append(l, spot{Ref{2, i, 0}, x.Link})
		infoLink := x.Flags>>6&1 == 1 && x.Type != shdr.SymTab && x.Type != shdr.Group
		if infoLink || x.Type == shdr.Rel || x.Type == shdr.Rela {
			l = append(l, spot{Ref{3, i, 0}, x.Info})
		}
	}
	for i, x := range m.Sections {
		for k, y := range x.Syms {
			if !y.Special {
				l = append(l, spot{Ref{5, i, k}, y.Sect})
			}
		}
		for k, n := range x.Members {
			if k > 0 {
				l = append(l, spot{Ref{4, i, k}, n})
			}
		}
	}
	slices.SortFunc(l, func(a, b spot) int {
		x, y := []int{a.From, a.Kind, a.At}, []int{b.From, b.Kind, b.At}
		if a.Kind == 1 || b.Kind == 1 {
			return a.Kind - b.Kind
		}
		return slices.Compare(x, y)
	})
	return l
}

// symbolSpots are those where the index of a symbol of a table is.
func symbolSpots(m model.Model, table int) []spot {
	var l []spot
	for i, x := range m.Sections {
		if x.Link == 0 || int(x.Link) != table {
			continue
		}
		for k, y := range x.Relocs {
			l = append(l, spot{Ref{5, i, k}, y.Sym})
		}
		if x.Type == shdr.Group {
			l = append(l, spot{Ref{3, i, 0}, x.Info})
		}
	}
	return l
}

// at returns the number at a spot of a model.
func at(m *model.Model, r Ref) *uint64 {
	switch r.Kind {
	case 1:
		return &m.Names
	case 2:
		return &m.Sections[r.From].Link
	case 3:
		return &m.Sections[r.From].Info
	case 4:
		return &m.Sections[r.From].Members[r.At]
	}
	return &m.Sections[r.From].Syms[r.At].Sect
}

// with returns those of the spots where n is.
func with(l []spot, n int) []Ref {
	var found []Ref
	for _, x := range l {
		if int(x.n) == n {
			found = append(found, x.Ref)
		}
	}
	return found
}

// same reports whether two things are told alike; empty lists are.
func same(a, b any) bool { return fmt.Sprintf("%+v", a) == fmt.Sprintf("%+v", b) }

// mustBeValid holds that a model is what the calls want.
func mustBeValid(t *testing.T, m model.Model) {
	t.Helper()
	if e := check.Model(m); e != api.OK {
		t.Fatalf("Model = %v of %+v", e, m)
	}
}

// kept returns what Keep has to return, made spot by spot.
func kept(m model.Model, l []int) (model.Model, api.Errno) {
	fresh := map[int]int{}
	for k, i := range l {
		fresh[i] = k
	}
	c := m.Copy()
	c.Sections = nil
	for _, i := range l {
		c.Sections = append(c.Sections, m.Copy().Sections[i])
	}
	for _, x := range spots(m) {
		from, ok := fresh[x.From]
		if !ok || x.n == 0 || x.n >= uint64(len(m.Sections)) {
			continue
		}
		to, ok := fresh[int(x.n)]
		if !ok {
			return model.Model{}, api.ErrUsed
		}
		*at(&c, Ref{x.Kind, from, x.At}) = uint64(to)
	}
	return c, api.OK
}

// keptSymbols returns what KeepSymbols has to return, made spot by spot.
func keptSymbols(m model.Model, table int, l []int) (model.Model, api.Errno) {
	c := m.Copy()
	x := &c.Sections[table]
	x.Syms, x.Info = nil, 0
	for _, k := range l {
		y := m.Sections[table].Syms[k]
		x.Syms = append(x.Syms, y)
		if y.Info>>4&15 == 0 {
			x.Info++
		}
	}
	for _, s := range symbolSpots(m, table) {
		n := slices.Index(l, int(s.n))
		if n < 0 {
			return model.Model{}, api.ErrUsed
		}
		if s.Kind == 3 {
			c.Sections[s.From].Info = uint64(n)
		} else {
			c.Sections[s.From].Relocs[s.At].Sym = uint64(n)
		}
	}
	return c, api.OK
}

// subset returns 0 and those of 1 to n-1 whose bits of mask are set.
func subset(n int, mask int) []int {
	l := []int{0}
	for i := 1; i < n; i++ {
		if mask>>i&1 == 1 {
			l = append(l, i)
		}
	}
	return l
}

// all returns 0 to n-1, without those of some.
func all(n int, but ...int) []int {
	var l []int
	for i := range n {
		if !slices.Contains(but, i) {
			l = append(l, i)
		}
	}
	return l
}
