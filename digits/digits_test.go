package digits

import (
	"fmt"
	"math"
	"testing"
)

func TestHex(t *testing.T) {
	cases := []struct {
		n    uint64
		want string
	}{
		{0, "0x0"},
		{1, "0x1"},
		{10, "0xa"},
		{15, "0xf"},
		{16, "0x10"},
		{0xabcdef, "0xabcdef"},
		{1 << 63, "0x8000000000000000"},
		{math.MaxUint64, "0xffffffffffffffff"},
	}
	for _, c := range cases {
		if got := Hex(c.n); got != c.want {
			t.Errorf("Hex(%d) = %q, want %q", c.n, got, c.want)
		}
	}
	for bit := range 64 {
		n := uint64(0x123456789abcdef0) >> bit
		if got, want := Hex(n), fmt.Sprintf("%#x", n); got != want {
			t.Errorf("Hex(%d) = %q, want %q", n, got, want)
		}
	}
}

func TestRest(t *testing.T) {
	cases := []struct {
		n    uint64
		want string
	}{
		{0, ""},
		{1, "+0x1"},
		{0x1a, "+0x1a"},
		{math.MaxUint64, "+0xffffffffffffffff"},
	}
	for _, c := range cases {
		if got := Rest(c.n); got != c.want {
			t.Errorf("Rest(%d) = %q, want %q", c.n, got, c.want)
		}
	}
}
