package shdr

import (
	"fmt"
	"math"
	"math/rand"
	"strings"
	"testing"
)

// P6.3
func TestConstants(t *testing.T) {
	types := []int{Null, ProgBits, SymTab, StrTab, Rela, Hash, Dynamic, Note, NoBits, Rel, DynSym, Group, Indices}
	for k, want := range []int{0, 1, 2, 3, 4, 5, 6, 7, 8, 9, 11, 17, 18} {
		if types[k] != want {
			t.Errorf("type %d is %d, want %d", k, types[k], want)
		}
	}
	flags := []int{Write, Alloc, Exec, InfoLink, LinkOrder, Grouped}
	for k, want := range []int{1, 2, 4, 64, 128, 512} {
		if flags[k] != want {
			t.Errorf("flag %d is %d, want %d", k, flags[k], want)
		}
	}
}

// P6.3
func TestTypeName(t *testing.T) {
	cases := []struct {
		n    uint64
		want string
	}{
		{0, "NULL"}, {1, "PROGBITS"}, {2, "SYMTAB"}, {3, "STRTAB"}, {4, "RELA"}, {5, "HASH"},
		{6, "DYNAMIC"}, {7, "NOTE"}, {8, "NOBITS"}, {9, "REL"}, {10, "SHLIB"}, {11, "DYNSYM"},
		{12, "0xc"}, {13, "0xd"},
		{14, "INIT_ARRAY"}, {15, "FINI_ARRAY"}, {16, "PREINIT_ARRAY"}, {17, "GROUP"}, {18, "SYMTAB_SHNDX"},
		{19, "0x13"}, {0x6ffffff6, "0x6ffffff6"}, {1 << 32, "0x100000000"}, {1<<32 + 1, "0x100000001"},
		{1 << 63, "0x8000000000000000"}, {math.MaxUint64, "0xffffffffffffffff"},
	}
	for _, c := range cases {
		if got := TypeName(c.n); got != c.want {
			t.Errorf("TypeName(%d) = %q, want %q", c.n, got, c.want)
		}
	}
}

// P6.3
func TestFlagLetters(t *testing.T) {
	cases := []struct {
		n    uint64
		want string
	}{
		{0, ""}, {Write, "W"}, {Alloc, "A"}, {Exec, "X"}, {1 << 4, "M"}, {1 << 5, "S"}, {InfoLink, "I"},
		{LinkOrder, "L"}, {1 << 8, "O"}, {Grouped, "G"}, {1 << 10, "T"}, {1 << 11, "C"},
		{1 << 3, "+0x8"}, {1 << 12, "+0x1000"}, {1 << 31, "+0x80000000"}, {1 << 63, "+0x8000000000000000"},
		{7, "WAX"}, {15, "WAX+0x8"}, {0xff7, "WAXMSILOGTC"}, {0xfff, "WAXMSILOGTC+0x8"},
		{0x1801, "WC+0x1000"}, {0x80000002, "A+0x80000000"}, {1<<12 | 1<<3, "+0x1008"},
		{math.MaxUint64, "WAXMSILOGTC+0xfffffffffffff008"},
	}
	for _, c := range cases {
		if got := FlagLetters(c.n); got != c.want {
			t.Errorf("FlagLetters(%#x) = %q, want %q", c.n, got, c.want)
		}
	}
}

// P6.3: the letters are those of the bits, one by one.
func TestFlagLettersOfManyNumbers(t *testing.T) {
	letter := map[int]string{0: "W", 1: "A", 2: "X", 4: "M", 5: "S", 6: "I", 7: "L", 8: "O", 9: "G", 10: "T", 11: "C"}
	random := rand.New(rand.NewSource(63))
	for k := range 1 << 14 {
		n := uint64(k)
		if k%2 == 1 {
			n |= random.Uint64() &^ 0x3fff
		}
		want := ""
		var rest uint64
		for bit := range 64 {
			if n>>bit&1 == 1 && letter[bit] != "" {
				want += letter[bit]
			} else {
				rest |= n & (1 << bit)
			}
		}
		if rest != 0 {
			want += fmt.Sprintf("+%#x", rest)
		}
		if got := FlagLetters(n); got != want {
			t.Fatalf("FlagLetters(%#x) = %q, want %q", n, got, want)
		}
	}
}

// P6.3: no two numbers have the same text.
func TestTextsDiffer(t *testing.T) {
	for k, text := range []func(uint64) string{TypeName, FlagLetters} {
		seen := map[string]uint64{}
		for n := range uint64(1 << 16) {
			s := text(n)
			if other, ok := seen[s]; ok {
				t.Fatalf("text %d: %d and %d are both %q", k, other, n, s)
			}
			if strings.Contains(s, " ") {
				t.Fatalf("text %d: %d is %q", k, n, s)
			}
			seen[s] = n
		}
	}
}
