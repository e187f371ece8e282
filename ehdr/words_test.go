package ehdr

import (
	"fmt"
	"math"
	"testing"
)

// P5.4
func TestTypeName(t *testing.T) {
	cases := []struct {
		n    uint64
		want string
	}{
		{0, "NONE"}, {1, "REL"}, {2, "EXEC"}, {3, "DYN"}, {4, "CORE"},
		{5, "0x5"}, {10, "0xa"}, {0xff00, "0xff00"}, {1 << 32, "0x100000000"},
		{1 << 63, "0x8000000000000000"}, {math.MaxUint64, "0xffffffffffffffff"},
	}
	for _, c := range cases {
		if got := TypeName(c.n); got != c.want {
			t.Errorf("TypeName(%d) = %q, want %q", c.n, got, c.want)
		}
	}
}

// P5.4
func TestMachineName(t *testing.T) {
	named := map[uint64]string{
		0: "none", 3: "386", 8: "MIPS", 20: "PowerPC", 21: "PowerPC64", 22: "S390",
		40: "ARM", 62: "X86-64", 183: "AArch64", 243: "RISC-V", 258: "LoongArch",
	}
	numbers := []uint64{1 << 32, 1<<32 + 3, 1 << 63, math.MaxUint64}
	for n := range uint64(600) {
		numbers = append(numbers, n)
	}
	for _, n := range numbers {
		want, ok := named[n]
		if !ok {
			want = fmt.Sprintf("%#x", n)
		}
		if got := MachineName(n); got != want {
			t.Errorf("MachineName(%d) = %q, want %q", n, got, want)
		}
	}
}

// P5.4: no two numbers have the same name.
func TestNamesDiffer(t *testing.T) {
	for _, name := range []func(uint64) string{TypeName, MachineName} {
		seen := map[string]uint64{}
		for n := range uint64(1 << 16) {
			s := name(n)
			if other, ok := seen[s]; ok {
				t.Fatalf("%d and %d are both %q", other, n, s)
			}
			seen[s] = n
		}
	}
}
