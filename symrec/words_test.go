package symrec

import (
	"fmt"
	"math"
	"testing"
)

// The numbers around those with words, and the greatest ones.
var plain = []uint64{
	3, 7, 8, 9, 10, 15, 16, 100, 255, 256, 1000, 65279, Reserve, 65281, 65520, 65523, XIndex, 65536, 65536 + Abs,
	1 << 32, 1<<32 + Abs, 1<<32 + Common, 1 << 63, math.MaxUint64 - 1, math.MaxUint64,
}

// P8.4
func TestNames(t *testing.T) {
	cases := []struct {
		what  string
		name  func(n uint64) string
		words map[uint64]string
	}{
		{"BindName", BindName, map[uint64]string{0: "LOCAL", 1: "GLOBAL", 2: "WEAK"}},
		{"KindName", KindName, map[uint64]string{
			0: "NOTYPE", 1: "OBJECT", 2: "FUNC", 3: "SECTION", 4: "FILE", 5: "COMMON", 6: "TLS",
		}},
		{"PlaceName", PlaceName, map[uint64]string{0: "UND", 0xfff1: "ABS", 0xfff2: "COM"}},
	}
	for _, c := range cases {
		seen := map[string]uint64{}
		try := func(n uint64) {
			want, ok := c.words[n]
			if !ok {
				want = fmt.Sprintf("%d", n)
			}
			got := c.name(n)
			if got != want {
				t.Errorf("%s(%d) = %q, want %q", c.what, n, got, want)
			}
			if other, ok := seen[got]; ok && other != n {
				t.Errorf("%s: %d and %d are both %q", c.what, other, n, got)
			}
			seen[got] = n
		}
		for n := range uint64(70000) {
			try(n)
		}
		for _, n := range plain {
			try(n)
		}
	}
}
