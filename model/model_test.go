package model

import (
	"math"
	"slices"
	"testing"

	"graver/api"
	"graver/relrec"
	"graver/shdr"
)

// P13.2
func TestTables(t *testing.T) {
	for _, f := range forms {
		m, e := Parse(whole(f).bytes(t))
		want := make([]bool, sections)
		want[shnames], want[symnames] = true, true
		if got := m.Tables(); !slices.Equal(got, want) || e != api.OK {
			t.Errorf("%v: Tables = %v, want %v (%v)", f, got, want, e)
		}
	}
	cases := []struct {
		m    Model
		want []bool
	}{
		{Model{}, nil},
		{Model{Names: 1}, nil},
		{Model{Sections: make([]Section, 2)}, []bool{false, false}},
		{Model{Sections: make([]Section, 2), Names: 1}, []bool{false, true}},
		{Model{Sections: make([]Section, 2), Names: 2}, []bool{false, false}},
		{Model{Sections: make([]Section, 2), Names: math.MaxUint64}, []bool{false, false}},
		{Model{Sections: []Section{{}, {Type: shdr.SymTab, Link: 2}, {Type: shdr.StrTab}}}, []bool{false, false, true}},
		{Model{Sections: []Section{{}, {Type: shdr.SymTab, Link: 3}, {Type: shdr.StrTab}}}, []bool{false, false, false}},
		{Model{Sections: []Section{{}, {Type: shdr.SymTab, Link: 1 << 63}, {Type: shdr.StrTab}}}, []bool{false, false, false}},
		{Model{Sections: []Section{{}, {Type: shdr.SymTab, Link: 2}, {Type: shdr.SymTab, Link: 2}}, Names: 2}, []bool{false, false, true}},
		{Model{Sections: []Section{{}, {Type: shdr.SymTab, Link: 2}, {}, {Type: shdr.SymTab, Link: 4}, {}}, Names: 1}, []bool{false, true, true, false, true}},
		{Model{Sections: []Section{{}, {Type: shdr.DynSym, Link: 2}, {Type: shdr.StrTab}}}, []bool{false, false, false}},
		{Model{Sections: []Section{{}, {Type: shdr.SymTab}}}, []bool{true, false}}, // no file has that
	}
	for _, c := range cases {
		if got := c.m.Tables(); !slices.Equal(got, c.want) {
			t.Errorf("Tables of %+v = %v, want %v", c.m, got, c.want)
		}
	}
}

// P13.2
func TestFind(t *testing.T) {
	m := Model{Sections: []Section{{Name: "first"}, {Name: "b"}, {}, {Name: "b"}, {Name: "B"}, {Name: "first"}, {Name: "b\x00"}}}
	for name, want := range map[string]int{"b": 1, "": 2, "B": 4, "first": 5, "b\x00": 6, "bb": 0, "c": 0} {
		if got, ok := m.Find(name); got != want || ok != (want > 0) {
			t.Errorf("Find(%q) = %v, %v, want %v", name, got, ok, want)
		}
	}
	for _, m := range []Model{{}, {Sections: make([]Section, 1)}} {
		if got, ok := m.Find(""); got != 0 || ok {
			t.Errorf("Find in %+v = %v, %v", m, got, ok)
		}
	}
}

// P13.2
func TestIndices(t *testing.T) {
	m := Model{Sections: []Section{
		{},
		{Type: shdr.SymTab, Link: 2},
		{Type: shdr.Indices, Link: 5},
		{Type: shdr.Indices, Link: 1},
		{Type: shdr.Indices, Link: 1},
		{Type: shdr.ProgBits, Link: 3},
		{Type: shdr.Indices, Link: 1<<63 + 4},
		{Type: shdr.Indices, Link: math.MaxUint64},
	}}
	for i, want := range map[int]int{1: 3, 5: 2, 0: 0, 2: 0, 3: 0, 4: 0, 8: 0, -1: 0, math.MaxInt: 0, math.MinInt: 0, math.MinInt + 4: 0} {
		if got, ok := m.Indices(i); got != want || ok != (want > 0) {
			t.Errorf("Indices(%d) = %v, %v, want %v", i, got, ok, want)
		}
	}
	if got, ok := (Model{}).Indices(0); got != 0 || ok {
		t.Errorf("Indices of nothing = %v, %v", got, ok)
	}
	m.Sections[4].Link = 0
	if got, ok := m.Indices(0); got != 4 || !ok {
		t.Errorf("Indices(0) = %v, %v", got, ok)
	}
}

// P13.2: whatever is changed in one of the two, the other one stays.
func TestCopy(t *testing.T) {
	for _, f := range forms {
		make := func() Model {
			m := wholeModel(f)
			m.Pad = "pad"
			return m
		}
		spoil := func(m Model) {
			for i := range m.Sections {
				x := &m.Sections[i]
				for k := range x.Syms {
					x.Syms[k].Name = "other"
				}
				for k := range x.Relocs {
					x.Relocs[k].Sym = 99
				}
				for k := range x.Members {
					x.Members[k] = 99
				}
				x.Name = "other"
				x.Syms, x.Relocs, x.Members = append(x.Syms, Symbol{}), append(x.Relocs, relrec.Reloc{}), append(x.Members, 1)
			}
			for i := range m.Segments {
				m.Segments[i].Data = "other"
			}
		}
		m, want := make(), make()
		c := m.Copy()
		if !equal(c, want) {
			t.Errorf("Copy = %+v, want %+v", c, want)
		}
		spoil(c)
		if !equal(m, want) {
			t.Errorf("a change of the copy changes the model: %+v", m)
		}
		c = m.Copy()
		spoil(m)
		if !equal(c, want) {
			t.Errorf("a change of the model changes the copy: %+v", c)
		}
	}
	if got := (Model{}).Copy(); !equal(got, Model{}) {
		t.Errorf("Copy of nothing = %+v", got)
	}
}

// P13.2: what is appended to one of the two is not seen in the other one.
func TestCopyOfSpareRoom(t *testing.T) {
	l := []Section{{}, {Name: "a"}, {Name: "b"}}
	m := Model{Sections: l[:2]}
	c := m.Copy()
	c.Sections = append(c.Sections, Section{Name: "c"})
	if l[2].Name != "b" {
		t.Error("Copy has the spare room of the model")
	}
	none := Model{Sections: l[:0]}.Copy()
	none.Sections = append(none.Sections, Section{Name: "c"})
	if l[0].Name != "" {
		t.Error("Copy of an empty list has the spare room of the model")
	}
}

// P13.3
func TestAt(t *testing.T) {
	const most = math.MaxUint64
	m := Model{Sections: []Section{
		{},
		{Type: shdr.ProgBits, Flags: shdr.Alloc, Addr: 16, Data: "four"},
		{Type: shdr.NoBits, Flags: shdr.Alloc | shdr.Write, Addr: 18, Size: 4, Data: "these do not count"},
		{Type: shdr.ProgBits, Flags: shdr.Write, Addr: 16, Data: "not in memory"},
		{Type: shdr.Note, Flags: shdr.Alloc, Addr: 17, Data: "x", Size: 99},
		{Type: shdr.ProgBits, Flags: shdr.Alloc, Addr: 17},
		{Type: shdr.NoBits, Flags: shdr.Alloc, Addr: 17, Data: "x"},
		{Type: shdr.Rel, Flags: shdr.Alloc, Addr: 17, Relocs: make([]relrec.Reloc, 9)},
		{Type: shdr.ProgBits, Flags: 1<<64 - 1, Addr: most - 1, Data: "four"},
		{Type: shdr.NoBits, Flags: shdr.Alloc, Addr: 1 << 63, Size: most},
	}}
	cases := map[uint64][]int{
		0: nil, 1: nil, 2: nil, 15: nil, 16: {1}, 17: {1, 4}, 18: {1, 2}, 19: {1, 2}, 20: {2}, 21: {2}, 22: nil,
		1<<63 - 1: nil, 1 << 63: {9}, most - 2: {9}, most - 1: {8, 9}, most: {8, 9},
	}
	for addr, want := range cases {
		if got := m.At(addr); !slices.Equal(got, want) {
			t.Errorf("At(%#x) = %v, want %v", addr, got, want)
		}
	}
	if got := (Model{}).At(0); len(got) != 0 {
		t.Errorf("At of nothing = %v", got)
	}
	for _, f := range forms {
		m, _ := Parse(whole(f).bytes(t))
		for addr, want := range map[uint64][]int{0xfff: nil, 0x1000: {text}, 0x1008: {text}, 0x1009: nil, 0x2000: {bss}, 1<<32 - 1: {bss}} {
			if got := m.At(addr); !slices.Equal(got, want) {
				t.Errorf("%v: At(%#x) = %v, want %v", f, addr, got, want)
			}
		}
	}
}

// P13.3
func TestCalled(t *testing.T) {
	m := Model{Sections: []Section{
		{},
		{Type: shdr.SymTab, Syms: []Symbol{{}, {Name: "a"}, {Name: "b"}, {Name: ""}, {Name: "a", Special: true}}},
		{Type: shdr.ProgBits, Name: "a", Data: "a"},
		{Type: shdr.SymTab, Syms: []Symbol{{Name: "a"}, {Name: "a"}, {Name: "aa"}}},
		{Type: shdr.SymTab},
	}}
	cases := map[string][][2]int{
		"a": {{1, 1}, {1, 4}, {3, 1}}, "b": {{1, 2}}, "": {{1, 3}}, "aa": {{3, 2}}, "A": nil, "a\x00": nil,
	}
	for name, want := range cases {
		if got := m.Called(name); !slices.Equal(got, want) {
			t.Errorf("Called(%q) = %v, want %v", name, got, want)
		}
	}
	if got := (Model{}).Called(""); len(got) != 0 {
		t.Errorf("Called of nothing = %v", got)
	}
}
