package canon

import (
	"math"
	"math/rand"
	"slices"
	"strings"
	"testing"

	"graver/api"
	"graver/check"
	"graver/class"
	"graver/model"
	"graver/place"
	"graver/relrec"
	"graver/shdr"
	"graver/strtab"
)

// has holds that all that write a model return this error, and nothing beside
// it.
func has(t *testing.T, m model.Model, what string, want api.Errno) {
	t.Helper()
	s, e := Write(m)
	n, sizeError := Size(m)
	l, placesError := Places(m)
	if e != want || sizeError != want || placesError != want {
		t.Errorf("%v: %s: Write, Size, Places = %v, %v, %v, want %v", m.Form, what, e, sizeError, placesError, want)
	}
	if want != api.OK && (s != "" || n != 0 || len(l) != 0) {
		t.Errorf("%v: %s: beside %v: %d bytes, Size %d, Places %v", m.Form, what, e, len(s), n, l)
	}
}

// invalid are changes that make a model have each of the errors of layer 14.
func invalid() map[api.Errno]func(m *model.Model) {
	return map[api.Errno]func(m *model.Model){
		api.ErrCount:  func(m *model.Model) { m.Segments = make([]model.Segment, api.MaxSegments+1) },
		api.ErrType:   func(m *model.Model) { m.Sections[0].Info = 1 },
		api.ErrIndex:  func(m *model.Model) { m.Names = sections },
		api.ErrName:   func(m *model.Model) { m.Sections[text].Name = "\x00" },
		api.ErrAlign:  func(m *model.Model) { m.Sections[symtab].Align = 3 },
		api.ErrArg:    func(m *model.Model) { m.Sections[symtab].Data = "x" },
		api.ErrLink:   func(m *model.Model) { m.Sections[symtab].Link = sections },
		api.ErrSize:   func(m *model.Model) { m.Sections[symtab].EntSize++ },
		api.ErrSymbol: func(m *model.Model) { m.Sections[symtab].Syms = nil },
		api.ErrInfo:   func(m *model.Model) { m.Sections[symtab].Info = 0 },
		api.ErrReloc:  func(m *model.Model) { m.Sections[rel].Relocs[0].Sym = 4 },
		api.ErrGroup:  func(m *model.Model) { m.Sections[group].Members[1] = 0 },
	}
}

// P16.1, P16.3: the errors of layer 14 come before all others.
func TestInvalid(t *testing.T) {
	for want, change := range invalid() {
		for _, f := range forms {
			m := whole(f)
			change(&m)
			if e := check.Model(m); e != want {
				t.Fatalf("%v: the model has the error %v, not %v", f, e, want)
			}
			has(t, m, "not valid", want)
			m.Type, m.Sections[text].Data, m.Sections[other].Name = 1<<63, strings.Repeat("x", api.MaxFile), strings.Repeat("x", api.MaxFile)
			has(t, m, "not valid, and too long", want)
		}
	}
}

// number of a model, and how many bytes it has in a file; 0 stands for a word.
type number struct {
	name string
	size int
	of   func(m *model.Model) *uint64
}

// numbers of a model that have no other rule than that they fit.
func numbers(f class.Form) []number {
	l := []number{
		{"Type", 2, func(m *model.Model) *uint64 { return &m.Type }},
		{"Machine", 2, func(m *model.Model) *uint64 { return &m.Machine }},
		{"Entry", 0, func(m *model.Model) *uint64 { return &m.Entry }},
		{"Flags", 4, func(m *model.Model) *uint64 { return &m.Flags }},
		{"first number of a group", 4, func(m *model.Model) *uint64 { return &m.Sections[group].Members[0] }},
		{"EntSize", 0, func(m *model.Model) *uint64 { return &m.Sections[text].EntSize }},
		{"Info", 4, func(m *model.Model) *uint64 { return &m.Sections[dynsym].Info }},
		{"Size in memory", 0, func(m *model.Model) *uint64 { return &m.Sections[bss].Size }},
		{"type of a section", 4, func(m *model.Model) *uint64 { return &m.Sections[other].Type }},
		{"type of a segment", 4, func(m *model.Model) *uint64 { return &m.Segments[1].Type }},
		{"flags of a segment", 4, func(m *model.Model) *uint64 { return &m.Segments[0].Flags }},
		{"VAddr", 0, func(m *model.Model) *uint64 { return &m.Segments[0].VAddr }},
		{"PAddr", 0, func(m *model.Model) *uint64 { return &m.Segments[0].PAddr }},
		{"MemSize", 0, func(m *model.Model) *uint64 { return &m.Segments[1].MemSize }},
		{"alignment of a segment", 0, func(m *model.Model) *uint64 { return &m.Segments[2].Align }},
		{"Other", 1, func(m *model.Model) *uint64 { return &m.Sections[symtab].Syms[3].Other }},
		{"Value", 0, func(m *model.Model) *uint64 { return &m.Sections[symtab].Syms[1].Value }},
		{"size of a symbol", 0, func(m *model.Model) *uint64 { return &m.Sections[second].Syms[1].Size }},
		{"Info of a symbol", 1, func(m *model.Model) *uint64 { return &m.Sections[symtab].Syms[2].Info }},
	}
	for _, i := range []int{symtab, text, bss, empty, other} {
		l = append(l, number{"Addr", 0, func(m *model.Model) *uint64 { return &m.Sections[i].Addr }})
	}
	types := 1
	if f.Wide {
		types = 4
	}
	for _, i := range []int{rel, rela} {
		l = append(l,
			number{"Offset", 0, func(m *model.Model) *uint64 { return &m.Sections[i].Relocs[0].Offset }},
			number{"type of a relocation", types, func(m *model.Model) *uint64 { return &m.Sections[i].Relocs[0].Type }})
	}
	return append(l, number{"Addend", 0, func(m *model.Model) *uint64 { return &m.Sections[rela].Relocs[0].Addend }})
}

// P16.1, P16.2: each number, up to the greatest one that fits and beyond it.
func TestNumbers(t *testing.T) {
	for _, f := range forms {
		for _, x := range numbers(f) {
			size := x.size
			if size == 0 {
				size = f.Word()
			}
			most := uint64(math.MaxUint64) >> (64 - 8*size)
			m := whole(f)
			if *x.of(&m) = most; !isCanonical(t, m) {
				t.Errorf("%v: %s: %#x does not fit", f, x.name, most)
			}
			if size == 8 {
				continue
			}
			for _, n := range []uint64{most + 1, 1 << 63, math.MaxUint64 &^ 15} {
				if x.name == "Info of a symbol" {
					n |= 0x10 // not a local one
				}
				m := whole(f)
				*x.of(&m) = n
				has(t, m, x.name, api.ErrLarge)
			}
		}
	}
}

// fill gives the last section so many bytes that the file has n, which are whole
// words.
func fill(t *testing.T, m *model.Model, n int) {
	t.Helper()
	size, e := Size(*m)
	if e != api.OK {
		t.Fatalf("Size = %v", e)
	}
	m.Sections[other].Data += strings.Repeat("x", n-size)
	if size, e = Size(*m); size != n || e != api.OK {
		t.Fatalf("Size = %d, %v, want %d", size, e, n)
	}
}

// P16.1, P16.3
func TestLongestFile(t *testing.T) {
	for _, f := range forms {
		m := whole(f)
		for i := range m.Sections {
			m.Sections[i].Align = 0
		}
		fill(t, &m, api.MaxFile)
		if !isCanonical(t, m) {
			t.Errorf("%v: there is no file of as many bytes as there may be", f)
		}
		longer := m.Copy()
		longer.Sections[other].Data += strings.Repeat("x", m.Word())
		has(t, longer, "longer data", api.ErrLong)
		longer = m.Copy()
		longer.Segments[1].Data += strings.Repeat("x", m.Word())
		has(t, longer, "a longer image", api.ErrLong)
		longer = m.Copy()
		longer.Sections = append(longer.Sections, model.Section{Type: shdr.NoBits})
		has(t, longer, "a section more", api.ErrLong)
		longer = m.Copy()
		longer.Segments = append(longer.Segments, model.Segment{})
		has(t, longer, "a segment more", api.ErrLong)
		longer = m.Copy()
		longer.Sections[symtab].Syms = append(longer.Sections[symtab].Syms, model.Symbol{Info: 0x10}, model.Symbol{Info: 0x10})
		has(t, longer, "symbols more", api.ErrLong)
		longer = m.Copy()
		longer.Sections[text].Name = strings.Repeat("x", 2*m.Word())
		has(t, longer, "a longer name", api.ErrLong)
	}
}

// P16.1: a file that ends with an image, and one that ends with data.
func TestLongestImage(t *testing.T) {
	for _, f := range forms {
		m := model.Model{Ident: class.Ident{Form: f}, Segments: make([]model.Segment, 1)}
		n, _ := Size(m)
		m.Segments[0].Data = strings.Repeat("x", api.MaxFile-n)
		if !isCanonical(t, m) {
			t.Errorf("%v: there is no file of as many bytes as there may be", f)
		}
		m.Segments[0].Data += "x"
		has(t, m, "one byte more", api.ErrLong)
	}
}

// P16.1: alignments of what has bytes and of what has none.
func TestGreatAlignments(t *testing.T) {
	for _, f := range forms {
		for _, i := range []int{symtab, shnames, text, indices, bss, rel, group, empty, other} {
			for _, align := range []uint64{1 << 19, 1 << 20, 1 << 21, 1 << 31, 1 << 32, 1 << 33, 1 << 63} {
				m := whole(f)
				m.Sections[i].Align = align
				want := api.ErrLong
				if align < api.MaxFile {
					want = api.OK
				}
				has(t, m, "an alignment", want)
				// There is one position for all of them, but none beyond the greatest.
				for k := 1; k < sections; k++ {
					m.Sections[k].Align = align
				}
				has(t, m, "all alignments", api.ErrLong)
			}
		}
	}
}

// P16.1: what begins at the end of the greatest file can have no bytes.
func TestAtTheEnd(t *testing.T) {
	for _, f := range forms {
		m := whole(f)
		m.Sections[other].Align = api.MaxFile
		has(t, m, "the table of sections at the end", api.ErrLong)
		m.Sections[other].Data = ""
		has(t, m, "nothing before the table of sections", api.ErrLong)
	}
}

// long are changes that make a file too long, whose numbers fit.
func long() map[string]func(m *model.Model) {
	many := strings.Repeat("x", api.MaxFile)
	return map[string]func(m *model.Model){
		"data":              func(m *model.Model) { m.Sections[other].Data = many },
		"an image":          func(m *model.Model) { m.Segments[2].Data = many },
		"an alignment":      func(m *model.Model) { m.Sections[other].Align = 1 << 31 },
		"names":             func(m *model.Model) { m.Sections[other].Name = many },
		"names of symbols":  func(m *model.Model) { m.Sections[second].Syms[1].Name = many[1:] },
		"a table of names":  func(m *model.Model) { m.Sections[other].Name = many[:api.MaxFile-200] },
		"the table at last": func(m *model.Model) { m.Sections[other].Data = many[:api.MaxFile-800] },
		"tables of symbols": func(m *model.Model) {
			x := model.Section{Type: shdr.SymTab, Link: symnames, Info: 1, EntSize: m.Sections[symtab].EntSize, Syms: make([]model.Symbol, api.MaxSymbols)}
			for k := range x.Syms[1:] {
				x.Syms[k+1].Info = 0x10
			}
			m.Sections = append(m.Sections, x, x, x, x)
		},
		"relocations": func(m *model.Model) {
			x := m.Sections[rel]
			x.Relocs = make([]relrec.Reloc, api.MaxRelocs)
			m.Sections = append(m.Sections, x, x, x, x, x, x, x, x)
		},
		"groups": func(m *model.Model) {
			m.Sections[group].Members = slices.Repeat([]uint64{text}, api.MaxFile/4)
		},
	}
}

// P16.1: ErrLong comes before ErrLarge, whatever does not fit and wherever it is.
func TestLongAndLarge(t *testing.T) {
	for name, change := range long() {
		for _, f := range forms {
			m := whole(f)
			change(&m)
			has(t, m, name, api.ErrLong)
		}
	}
	f := forms[2]
	for _, x := range numbers(f) {
		for _, name := range []string{"data", "an alignment", "names", "the table at last"} {
			m := whole(f)
			*x.of(&m) = 1<<63 + 0x10
			has(t, m, x.name, api.ErrLarge)
			long()[name](&m)
			has(t, m, x.name+" and "+name, api.ErrLong)
		}
	}
	for _, f := range forms {
		if !f.Wide {
			m := whole(f)
			m.Sections[text].Align = 1 << 32 // fits into no word, and makes the file too long
			has(t, m, "an alignment", api.ErrLong)
		}
	}
}

// P16.1: a table of names of just as many bytes as there may be.
func TestLongestTable(t *testing.T) {
	name := strings.Repeat("x", api.MaxFile-2)
	if _, _, e := strtab.Build(name); e != api.OK {
		t.Fatalf("Build = %v", e)
	}
	m := model.Model{Names: 1, Sections: []model.Section{{}, {Name: name, Type: shdr.StrTab}}}
	has(t, m, "the longest table", api.ErrLong)
	m.Sections[1].Name += "x"
	has(t, m, "a longer table", api.ErrLong)
}

// P16.2: of models that are changed at random.
func TestChangedModels(t *testing.T) {
	r := rand.New(rand.NewSource(16))
	for _, f := range forms {
		written, errors := 0, map[api.Errno]int{}
		for range 4000 {
			m := whole(f)
			for range 1 + r.Intn(4) {
				change(r, &m)
			}
			if isCanonical(t, m) {
				written++
			}
			_, e := Write(m)
			errors[e]++
			if want := check.Model(m); want != api.OK && e != want {
				t.Errorf("Write = %v, want %v", e, want)
			}
		}
		if written < 400 || errors[api.ErrLarge] < 10 || errors[api.ErrLong] < 10 {
			t.Errorf("%v: %d models are written: %v", f, written, errors)
		}
	}
}

// change changes something of a model.
func change(r *rand.Rand, m *model.Model) {
	any := []uint64{0, 1, 2, 3, 4, 8, 9, 11, 17, 18, 255, 256, 0xfff1, 1<<32 - 1, 1 << 32, 1 << 63, uint64(r.Intn(sections))}
	n := any[r.Intn(len(any))]
	aligns := []uint64{0, 1, 2, 4, 8, 16, 64, 1 << 12, 1 << 20, 1 << 40}
	names := []string{"", "s", "text", ".text", "a.text", "names", "other"}
	x, y := &m.Sections[1+r.Intn(len(m.Sections)-1)], &m.Segments[r.Intn(len(m.Segments))]
	switch r.Intn(14) {
	case 0:
		x.Name = names[r.Intn(len(names))]
	case 1:
		x.Align = aligns[r.Intn(len(aligns))]
	case 2:
		x.Flags, x.Addr = n, n
	case 3:
		x.Link = n
	case 4:
		x.Info = n
	case 5:
		x.Type = n
	case 6:
		x.Data, y.Data = strings.Repeat("d", r.Intn(40)), strings.Repeat("e", r.Intn(40))
	case 7:
		y.Type, y.Flags, y.VAddr, y.PAddr, y.MemSize, y.Align = n, n, n, n, n, n
	case 8:
		m.Names = n
	case 9:
		m.Entry = n
	case 10:
		l := m.Sections[symtab].Syms
		l[1+r.Intn(len(l)-1)].Name = names[r.Intn(len(names))]
		l[1+r.Intn(len(l)-1)].Sect = n
		l[1+r.Intn(len(l)-1)].Value = n
	case 11:
		m.Sections[rel].Relocs[1] = relrec.Reloc{Offset: n, Sym: uint64(r.Intn(5)), Type: n}
	case 12:
		m.Sections[group].Members[r.Intn(3)] = n
	case 13:
		m.Segments = m.Segments[:1+r.Intn(len(m.Segments))]
	}
}

// P16.2: of files that are changed at random, each of which has a file of its
// own model.
func TestChangedFiles(t *testing.T) {
	r := rand.New(rand.NewSource(17))
	for _, f := range forms {
		s := mustWrite(t, whole(f))
		written := 0
		for range 4000 {
			b := []byte(s)
			for range 1 + r.Intn(4) {
				b[r.Intn(len(b))] = byte(r.Intn(64))
			}
			m, _, e := place.Read(string(b))
			if e != api.OK {
				continue
			}
			if isCanonical(t, m) {
				written++
			} else if _, e := Write(m); e != api.ErrLong {
				t.Errorf("%v: Write = %v of a model of a file", f, e)
			}
		}
		if written < 400 {
			t.Errorf("%v: only %d models are written", f, written)
		}
	}
}

// P16.1: a model whose symbols are far in its file: in the canonical one, they
// are not.
func TestFarSymbols(t *testing.T) {
	for _, f := range forms {
		m, p, e := place.Read(mustWrite(t, whole(f)))
		if e != api.OK {
			t.Fatalf("%v: Read = %v", f, e)
		}
		p.Far[symtab][1], p.Far[symtab][3] = true, true
		s, e := place.Write(m, p)
		far, q, _ := place.Read(s)
		if e != api.OK || !q.Far[symtab][1] || !same(far, m) {
			t.Fatalf("%v: there is no file with far symbols: %v", f, e)
		}
		if got := mustWrite(t, far); got == s || got != mustWrite(t, whole(f)) {
			t.Errorf("%v: the file of a model with far symbols is %q", f, got)
		}
	}
}
