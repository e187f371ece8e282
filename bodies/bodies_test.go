package bodies

import (
	"strings"
	"testing"

	"graver/class"
	"graver/model"
	"graver/order"
	"graver/relrec"
	"graver/shdr"
)

// all has everything that a section of any type can have.
func all(kind, link uint64) model.Section {
	return model.Section{
		Type: kind, Link: link, Size: 1 << 63, Data: "data",
		Syms: make([]model.Symbol, 5), Relocs: make([]relrec.Reloc, 6), Members: make([]uint64, 7),
	}
}

func TestSize(t *testing.T) {
	for _, big := range []bool{false, true} {
		for k, wide := range []bool{false, true} {
			f := class.Form{Order: order.Order{Big: big}, Wide: wide}
			for kind, want := range map[uint64][2]uint64{
				shdr.Null: {0, 0}, shdr.NoBits: {1 << 63, 1 << 63}, shdr.SymTab: {80, 120}, shdr.Rel: {48, 96}, shdr.Rela: {72, 144},
				shdr.Group: {28, 28}, shdr.Indices: {20, 20}, shdr.DynSym: {4, 4}, shdr.StrTab: {4, 4}, shdr.ProgBits: {4, 4},
				1<<32 + shdr.SymTab: {4, 4}, 1<<64 - 1: {4, 4},
			} {
				m := model.Model{Ident: class.Ident{Form: f}, Sections: []model.Section{{}, all(shdr.SymTab, 0), all(kind, 1)}}
				if n, ok := Size(m, 2); n != want[k] || !ok {
					t.Errorf("%v: Size of type %d = %d, %v, want %d", f, kind, n, ok, want[k])
				}
			}
		}
	}
}

func TestSizeOfNothing(t *testing.T) {
	for kind := range uint64(20) {
		m := model.Model{Sections: []model.Section{{Type: kind, Link: 1}, {Type: shdr.SymTab}}}
		if n, ok := Size(m, 0); n != 0 || !ok {
			t.Errorf("Size of type %d = %d, %v", kind, n, ok)
		}
	}
	m := model.Model{Sections: []model.Section{{Type: shdr.Note, Data: strings.Repeat("x", 1<<21)}}}
	if n, ok := Size(m, 0); n != 1<<21 || !ok {
		t.Errorf("Size = %d, %v", n, ok)
	}
}

func TestSymbols(t *testing.T) {
	m := model.Model{Sections: []model.Section{{}, all(shdr.SymTab, 2), all(shdr.DynSym, 1), all(shdr.Indices, 0), {Type: shdr.SymTab, Link: 4}}}
	for link, want := range map[uint64]int{0: -1, 1: 5, 2: -1, 3: -1, 4: 0, 5: -1, 1 << 32: -1, 1<<63 + 1: -1, 1<<64 - 1: -1} {
		m.Sections[3].Link = link
		if l, ok := Symbols(m, 3); len(l) != max(want, 0) || ok != (want >= 0) {
			t.Errorf("Symbols of a link to %d = %d, %v", link, len(l), ok)
		}
		if n, ok := Size(m, 3); n != uint64(4*max(want, 0)) || ok != (want >= 0) {
			t.Errorf("Size of a link to %d = %d, %v", link, n, ok)
		}
	}
}
