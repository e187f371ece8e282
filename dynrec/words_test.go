package dynrec

import (
	"fmt"
	"math"
	"strings"
	"testing"
)

// P10.3
func TestTagName(t *testing.T) {
	words := strings.Split("NULL, NEEDED, PLTRELSZ, PLTGOT, HASH, STRTAB, SYMTAB, RELA, RELASZ, RELAENT, "+
		"STRSZ, SYMENT, INIT, FINI, SONAME, RPATH, SYMBOLIC, REL, RELSZ, RELENT, PLTREL, DEBUG, TEXTREL, "+
		"JMPREL, BIND_NOW", ", ")
	numbers := []uint64{
		0x6ffffff0, 0x6fffffff, math.MaxUint32, 1 << 32, 1<<32 + 1, 1<<32 + 24, 1 << 63, 1<<63 + 1,
		math.MaxUint64 - 1, math.MaxUint64,
	}
	for n := range uint64(5000) {
		numbers = append(numbers, n)
	}
	for _, n := range numbers {
		want := fmt.Sprintf("0x%x", n)
		if n <= 24 {
			want = words[n]
		}
		if got := TagName(n); got != want {
			t.Errorf("TagName(%d) = %q, want %q", n, got, want)
		}
	}
}
