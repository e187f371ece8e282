package phdr

import (
	"fmt"
	"math"
	"math/rand"
	"testing"
)

// P7.3
func TestTypeName(t *testing.T) {
	cases := []struct {
		n    uint64
		want string
	}{
		{0, "NULL"}, {1, "LOAD"}, {2, "DYNAMIC"}, {3, "INTERP"},
		{4, "NOTE"}, {5, "SHLIB"}, {6, "PHDR"}, {7, "TLS"},
		{8, "0x8"}, {9, "0x9"}, {10, "0xa"}, {16, "0x10"}, {0x6474e551, "0x6474e551"},
		{1 << 32, "0x100000000"}, {1<<32 + 1, "0x100000001"},
		{1 << 63, "0x8000000000000000"}, {math.MaxUint64, "0xffffffffffffffff"},
	}
	for _, c := range cases {
		if got := TypeName(c.n); got != c.want {
			t.Errorf("TypeName(%d) = %q, want %q", c.n, got, c.want)
		}
	}
}

// P7.3
func TestLetters(t *testing.T) {
	cases := []struct {
		n    uint64
		want string
	}{
		{0, "---"}, {1, "--X"}, {2, "-W-"}, {3, "-WX"}, {4, "R--"}, {5, "R-X"}, {6, "RW-"}, {7, "RWX"},
		{8, "---+0x8"}, {10, "-W-+0x8"}, {15, "RWX+0x8"}, {16, "---+0x10"}, {0xff, "RWX+0xf8"},
		{1 << 32, "---+0x100000000"}, {1<<63 | 4, "R--+0x8000000000000000"},
		{math.MaxUint64, "RWX+0xfffffffffffffff8"},
	}
	for _, c := range cases {
		if got := Letters(c.n); got != c.want {
			t.Errorf("Letters(%#x) = %q, want %q", c.n, got, c.want)
		}
	}
}

// P7.3: each of the three bits has its character, whatever the others are.
func TestLettersOfManyNumbers(t *testing.T) {
	random := rand.New(rand.NewSource(73))
	for range 2000 {
		n := random.Uint64() >> random.Intn(64)
		want := ""
		for k, bit := range []int{2, 1, 0} {
			if n>>bit&1 == 1 {
				want += "RWX"[k : k+1]
			} else {
				want += "-"
			}
		}
		if n >= 8 {
			want += fmt.Sprintf("+%#x", n/8*8)
		}
		if got := Letters(n); got != want {
			t.Fatalf("Letters(%#x) = %q, want %q", n, got, want)
		}
	}
}

// P7.3: no call leaves a trace in a later one.
func TestLettersAgain(t *testing.T) {
	Letters(0)
	if got := Letters(7); got != "RWX" {
		t.Errorf("Letters(7) = %q", got)
	}
}

// P7.3: no two numbers have the same text.
func TestTextsDiffer(t *testing.T) {
	for k, text := range []func(uint64) string{TypeName, Letters} {
		seen := map[string]uint64{}
		for n := range uint64(1 << 16) {
			s := text(n)
			if other, ok := seen[s]; ok {
				t.Fatalf("text %d: %d and %d are both %q", k, other, n, s)
			}
			seen[s] = n
		}
	}
}
