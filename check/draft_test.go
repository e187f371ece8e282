package check

import (
	"graver/api"
	"graver/class"
	"graver/model"
	"graver/order"
	"graver/relrec"
	"graver/shdr"
	"graver/symrec"
)

var forms = []class.Form{
	{},
	{Wide: true},
	{Order: order.Order{Big: true}},
	{Order: order.Order{Big: true}, Wide: true},
}

// The indices of the sections of valid.
const (
	null = iota
	shnames
	symnames
	symtab
	indices
	text
	bss
	rel
	rela
	group
	dynsym
	dynstr
	empty
	second
	other
	sections
)

// valid is a model with a section of each type that layer 13 tells of. A second
// table of symbols makes sure that symnames is a table of names.
func valid(f class.Form) model.Model {
	return model.Model{
		Ident: class.Ident{Form: f}, Names: shnames,
		Sections: []model.Section{
			{},
			{Name: "names", Type: shdr.StrTab},
			{Name: "symbols' names", Type: shdr.StrTab, Align: 1},
			{Name: "symbols", Type: shdr.SymTab, Link: symnames, Info: 2, Align: 1 << 63, EntSize: uint64(symrec.Size(f)), Syms: []model.Symbol{
				{},
				{Name: "a", Info: 0x0f, Other: 1 << 63, Value: 1 << 63, Size: 1 << 63, Sect: text},
				{Name: "b", Info: 0x10, Sect: 0xff00, Special: true},
				{Name: "b", Info: 0x23, Sect: 0xfffe, Special: true},
				{Info: 0xf0},
			}},
			{Name: "indices", Type: shdr.Indices, Link: symtab, EntSize: 4},
			{Name: "text", Type: shdr.ProgBits, Data: "data"},
			{Name: "bss", Type: shdr.NoBits, Size: 1 << 63},
			{Name: "rel", Type: shdr.Rel, Link: symtab, Info: text, EntSize: uint64(relrec.Size(f, false)), Relocs: []relrec.Reloc{
				{Offset: 1 << 63, Sym: 4, Type: 1 << 63}, {Sym: 0},
			}},
			{Name: "rela", Type: shdr.Rela, Link: dynsym, EntSize: uint64(relrec.Size(f, true)), Relocs: []relrec.Reloc{
				{Sym: 0, Addend: 1 << 63}, {Sym: 1},
			}},
			{Name: "group", Type: shdr.Group, Link: symtab, Info: 4, EntSize: 4, Members: []uint64{1 << 63, text, other, text}},
			{Name: "dynsym", Type: shdr.DynSym, Link: dynstr, Info: 99, EntSize: 99, Data: string(make([]byte, 3*symrec.Size(f)-1))},
			{Name: "dynstr", Type: shdr.StrTab, Data: "no table"},
			{Name: "", Type: shdr.Null, Flags: 1, Addr: 2, Link: 3, Info: 4, Align: 8, EntSize: 5},
			{Name: "second", Type: shdr.SymTab, Link: symnames, Info: 1, EntSize: uint64(symrec.Size(f)), Syms: make([]model.Symbol, 1)},
			{Name: "text", Type: 1 << 63, Flags: shdr.InfoLink, Link: text, Info: other, Data: "\x00"},
		},
		Segments: []model.Segment{{Type: 1 << 63, Align: 3, Data: "data"}},
	}
}

// fault that valid can be given, and the error that it has then; section is
// the one that has the error, or 0 if it is none's alone.
type fault struct {
	name    string
	section int
	want    api.Errno
	spoil   func(m *model.Model)
}

// list of faults, and the section of which the next ones are.
type list struct {
	faults []fault
	at     int
}

func (l *list) add(name string, want api.Errno, spoil func(x *model.Section)) {
	i := l.at
	l.faults = append(l.faults, fault{name, i, want, func(m *model.Model) { spoil(&m.Sections[i]) }})
}

func (l *list) whole(name string, want api.Errno, spoil func(m *model.Model)) {
	l.faults = append(l.faults, fault{name, 0, want, spoil})
}

func (l *list) links(name string, to ...uint64) {
	for _, i := range to {
		l.add(name, api.ErrLink, func(x *model.Section) { x.Link = i })
	}
}

func (l *list) infos(name string, n ...uint64) {
	for _, info := range n {
		l.add(name, api.ErrInfo, func(x *model.Section) { x.Info = info })
	}
}

func (l *list) entSize() {
	l.add("EntSize", api.ErrSize, func(x *model.Section) { x.EntSize++ })
	l.add("EntSize", api.ErrSize, func(x *model.Section) { x.EntSize = 0 })
}

func (l *list) symbol(k int, name string, want api.Errno, spoil func(y *model.Symbol)) {
	l.add(name, want, func(x *model.Section) { spoil(&x.Syms[k]) })
}

// begin is what all sections but the first one have in common.
func (l *list) begin(i int) {
	l.at = i
	for _, align := range []uint64{3, 6, 1<<63 + 1, 1<<64 - 1} {
		l.add("alignment", api.ErrAlign, func(x *model.Section) { x.Align = align })
	}
	kind := valid(forms[0]).Sections[i].Type
	shape := func(has bool, name string, spoil func(x *model.Section)) {
		if !has {
			l.add(name, api.ErrArg, spoil)
		}
	}
	shape(i == bss, "size", func(x *model.Section) { x.Size = 1 << 63 })
	shape(i == text || i == dynsym || i == dynstr || i == other, "data", func(x *model.Section) { x.Data = "\x00" })
	shape(i == symtab, "symbols", func(x *model.Section) { x.Syms = append(x.Syms, model.Symbol{}) })
	shape(i == rel || i == rela, "relocations", func(x *model.Section) { x.Relocs = append(x.Relocs, relrec.Reloc{}) })
	shape(i == group, "members", func(x *model.Section) { x.Members = append(x.Members, 0) })
	shape(kind != shdr.Rel, "addend", func(x *model.Section) { x.Relocs[1].Addend = 1 << 63 })
	l.links("link to none", sections, 1<<63, 1<<64-1)
}

// others is what sections have in common of whose types nothing is told.
func (l *list) others() {
	l.add("InfoLink to none", api.ErrInfo, func(x *model.Section) { x.Flags |= shdr.InfoLink; x.Info = sections })
	l.add("InfoLink to none", api.ErrInfo, func(x *model.Section) { x.Flags = 1<<64 - 1; x.Info = 1 << 63 })
	l.links("link to a table of names", shnames)
}

// ofModel has the faults that are of no section alone, in the order in which
// they are told.
func (l *list) ofModel() {
	l.whole("too many segments", api.ErrCount, func(m *model.Model) { m.Segments = make([]model.Segment, api.MaxSegments+1) })
	for _, x := range notZero() {
		l.whole("first section", api.ErrType, func(m *model.Model) { m.Sections[0] = x })
	}
	for _, n := range []uint64{sections, 1 << 63, 1<<64 - 1} {
		l.whole("names are no section", api.ErrIndex, func(m *model.Model) { m.Names = n })
	}
	for _, n := range []uint64{symtab, indices, text, bss, empty, other} {
		l.whole("names are no string table", api.ErrName, func(m *model.Model) { m.Names = n })
	}
	l.whole("names without a table", api.ErrName, func(m *model.Model) { m.Names = 0 })
	for _, name := range []string{"\x00", "a\x00", "a\x00b"} {
		l.whole("name of a section", api.ErrName, func(m *model.Model) { m.Sections[other].Name = name })
	}
}

// notZero has sections that are not the zero one, each with one thing only.
func notZero() []model.Section {
	return []model.Section{
		{Name: "x"}, {Type: 1}, {Type: shdr.NoBits}, {Flags: 1}, {Addr: 1}, {Link: 1}, {Info: 1}, {Align: 1}, {EntSize: 1 << 63},
		{Size: 1}, {Data: "\x00"}, {Syms: make([]model.Symbol, 1)}, {Relocs: make([]relrec.Reloc, 1)}, {Members: make([]uint64, 1)},
	}
}

func (l *list) ofSymbols() {
	l.begin(symtab)
	l.entSize()
	l.add("too many", api.ErrCount, func(x *model.Section) {
		x.Syms = append(x.Syms, make([]model.Symbol, api.MaxSymbols+1)...)
	})
	l.links("link to no string table", null, symtab, indices, text, bss, dynsym, empty, other)
	l.add("no symbols", api.ErrSymbol, func(x *model.Section) { x.Syms = nil })
	for _, y := range []model.Symbol{{Name: "\x00"}, {Info: 1}, {Other: 1}, {Value: 1}, {Size: 1}, {Sect: 1}, {Sect: sections}, {Special: true}, {Special: true, Sect: 0xfff1}} {
		l.symbol(0, "first symbol", api.ErrSymbol, func(x *model.Symbol) { *x = y })
	}
	l.symbol(1, "name", api.ErrName, func(y *model.Symbol) { y.Name = "a\x00" })
	for _, n := range []uint64{sections, 0xfeff, 0xff00, 0xfff1, 1<<64 - 1} {
		l.symbol(1, "at no section", api.ErrIndex, func(y *model.Symbol) { y.Sect = n; y.Special = false })
	}
	l.symbol(2, "name", api.ErrName, func(y *model.Symbol) { y.Name = "\x00" })
	for _, n := range []uint64{0, text, 0xfeff, 0xffff, 0x10000, 1<<64 - 1} {
		l.symbol(2, "special", api.ErrSymbol, func(y *model.Symbol) { y.Sect = n; y.Special = true })
	}
	l.symbol(4, "name", api.ErrName, func(y *model.Symbol) { y.Name = "b\x00b" })
	l.symbol(4, "at no section", api.ErrIndex, func(y *model.Symbol) { y.Sect = sections })
	l.infos("not the number of local symbols", 0, 1, 3, 4, 5, 1<<63+2)
	l.symbol(3, "local symbol behind another one", api.ErrInfo, func(y *model.Symbol) { y.Info = 0x0f })
	l.symbol(4, "local symbol behind another one", api.ErrInfo, func(y *model.Symbol) { y.Info = 0x100 })
}

func (l *list) ofRelocs(i int) {
	l.begin(i)
	l.entSize()
	l.add("too many", api.ErrCount, func(x *model.Section) {
		x.Relocs = append(x.Relocs, make([]relrec.Reloc, api.MaxRelocs+1)...)
	})
	l.links("link to no symbols", shnames, symnames, indices, text, group, dynstr, empty, other)
	l.infos("Info", sections, 1<<64-1)
	for _, n := range []uint64{5, 1 << 63} {
		l.add("no such symbol", api.ErrReloc, func(x *model.Section) { x.Relocs[1].Sym = n })
	}
	l.add("no symbols at all", api.ErrReloc, func(x *model.Section) { x.Link = 0; x.Relocs[0].Sym = 1 })
}

func (l *list) ofGroup() {
	l.begin(group)
	l.entSize()
	l.add("no members", api.ErrSize, func(x *model.Section) { x.Members = nil })
	l.links("link to no symbols", null, shnames, symnames, indices, text, group, dynsym, other)
	l.infos("Info", 5, 1<<64-1)
	for k := 1; k <= 3; k++ {
		for _, n := range []uint64{0, group, sections, 1 << 63} {
			l.add("member", api.ErrGroup, func(x *model.Section) { x.Members[k] = n })
		}
	}
}

// faults has what can be wrong with valid, in the order in which it is told.
// Those of one section do not undo each other if the later one is given first.
func faults() []fault {
	l := &list{}
	l.ofModel()
	for _, i := range []int{shnames, symnames} {
		l.begin(i)
		l.others()
	}
	l.ofSymbols()
	l.begin(indices)
	l.entSize()
	l.links("link to no symbols", null, shnames, symnames, indices, text, dynsym, other)
	for _, i := range []int{text, bss} {
		l.begin(i)
		l.others()
		l.links("link to a table of names", symnames)
	}
	l.ofRelocs(rel)
	l.ofRelocs(rela)
	l.ofGroup()
	for _, i := range []int{dynsym, dynstr, empty, other} {
		l.begin(i)
		l.others()
	}
	return l.faults
}
