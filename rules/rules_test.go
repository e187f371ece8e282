package rules

import (
	"testing"

	"graver/api"
	"graver/class"
	"graver/order"
	"graver/relrec"
	"graver/shdr"
)

// The rules are tried in full by the tests of model and check; these are about
// what they have in common.

func TestItemSize(t *testing.T) {
	for _, big := range []bool{false, true} {
		narrow := class.Form{Order: order.Order{Big: big}}
		wide := class.Form{Order: order.Order{Big: big}, Wide: true}
		for kind, want := range map[uint64][2]uint64{
			shdr.SymTab: {16, 24}, shdr.DynSym: {16, 24}, shdr.Rel: {8, 16}, shdr.Rela: {12, 24},
			shdr.Group: {4, 4}, shdr.Indices: {4, 4},
			shdr.Null: {1, 1}, shdr.ProgBits: {1, 1}, shdr.StrTab: {1, 1}, shdr.NoBits: {1, 1}, 1<<32 + 2: {1, 1}, 1<<64 - 1: {1, 1},
		} {
			if got := [2]uint64{ItemSize(narrow, kind), ItemSize(wide, kind)}; got != want {
				t.Errorf("ItemSize of type %d = %d, want %d", kind, got, want)
			}
		}
	}
}

func TestIsSection(t *testing.T) {
	r := New(class.Form{}, make([]bool, 2), make([]Section, 2))
	for n, want := range map[uint64]bool{0: true, 1: true, 2: false, 1 << 32: false, 1 << 63: false, 1<<64 - 1: false} {
		if r.IsSection(n) != want {
			t.Errorf("IsSection(%d) = %v", n, !want)
		}
	}
	if New(class.Form{}, nil, nil).IsSection(0) {
		t.Error("IsSection(0) of no sections")
	}
}

func TestLocals(t *testing.T) {
	for _, c := range []struct {
		info  uint64
		infos []uint64
		want  api.Errno
	}{
		{0, nil, api.OK},
		{1, nil, api.ErrInfo},
		{0, []uint64{0x10, 0x20, 0xff}, api.OK},
		{1, []uint64{0x10}, api.ErrInfo},
		{2, []uint64{0, 0x0f, 0x10}, api.OK},
		{3, []uint64{0, 0x0f, 0x10}, api.ErrInfo},
		{1, []uint64{0, 0x10, 0}, api.ErrInfo},
		{2, []uint64{0, 0x10, 0}, api.ErrInfo},
		{3, []uint64{0, 0, 0x100}, api.OK}, // bits above the binding do not count
	} {
		r := New(class.Form{}, make([]bool, 1), []Section{{Info: c.info}})
		if e := r.Locals(0, c.infos...); e != c.want {
			t.Errorf("Locals of %d with %x = %v, want %v", c.info, c.infos, e, c.want)
		}
	}
}

func TestRelocsAndMembers(t *testing.T) {
	r := New(class.Form{}, make([]bool, 4), []Section{{Items: 9}, {Items: 2}, {Link: 1}, {}})
	for sym, want := range map[uint64][2]api.Errno{0: {}, 1: {api.OK, api.ErrReloc}, 2: {api.ErrReloc, api.ErrReloc}, 1 << 63: {api.ErrReloc, api.ErrReloc}} {
		x := relrec.Reloc{Sym: sym}
		if got := [2]api.Errno{r.Relocs(2, relrec.Reloc{}, x), r.Relocs(3, x)}; got != want {
			t.Errorf("Relocs with the symbol %d = %v, want %v", sym, got, want)
		}
	}
	for n, want := range map[uint64]api.Errno{0: api.ErrGroup, 1: api.OK, 2: api.ErrGroup, 3: api.OK, 4: api.ErrGroup, 1 << 63: api.ErrGroup} {
		if e := r.Members(2, n, 1, n); e != want {
			t.Errorf("Members with %d = %v, want %v", n, e, want)
		}
	}
	if e := r.Members(2, 0); e != api.OK {
		t.Errorf("Members of a group of nothing = %v", e)
	}
}
