package symrec

import (
	"math"
	"strings"
	"testing"

	"graver/class"
	"graver/order"
)

var forms = []class.Form{
	{},
	{Wide: true},
	{Order: order.Order{Big: true}},
	{Order: order.Order{Big: true}, Wide: true},
}

// P8.1
func TestSize(t *testing.T) {
	for _, f := range forms {
		want := 16
		if f.Wide {
			want = 24
		}
		if got := Size(f); got != want {
			t.Errorf("Size(%v) = %d", f, got)
		}
	}
}

var counted = Symbol{Name: 1, Info: 2, Other: 3, Shndx: 4, Value: 5, Size: 6}

const (
	narrowLittle = "\x01\x00\x00\x00\x05\x00\x00\x00\x06\x00\x00\x00\x02\x03\x04\x00"
	wideLittle   = "\x01\x00\x00\x00\x02\x03\x04\x00" +
		"\x05\x00\x00\x00\x00\x00\x00\x00\x06\x00\x00\x00\x00\x00\x00\x00"
	narrowBig = "\x00\x00\x00\x01\x00\x00\x00\x05\x00\x00\x00\x06\x02\x03\x00\x04"
	wideBig   = "\x00\x00\x00\x01\x02\x03\x00\x04" +
		"\x00\x00\x00\x00\x00\x00\x00\x05\x00\x00\x00\x00\x00\x00\x00\x06"
)

// P8.1, P8.2; each field alone: see record/layers_test.go.
func TestPutAndRead(t *testing.T) {
	for k, want := range []string{narrowLittle, wideLittle, narrowBig, wideBig} {
		f := forms[k]
		if got, ok := Put(f, counted); got != want || !ok {
			t.Errorf("Put(%v) = %q, %v, want %q", f, got, ok, want)
		}
		for _, more := range []string{"", "x", strings.Repeat("more", 100)} {
			if got, ok := Read(f, want+more); got != counted || !ok {
				t.Errorf("Read(%v) = %v, %v", f, got, ok)
			}
		}
		if got, ok := Read(f, want[:len(want)-1]); got != (Symbol{}) || ok {
			t.Errorf("Read(%v) of too few bytes = %v, %v", f, got, ok)
		}
	}
}

// P8.3
func TestConstants(t *testing.T) {
	constants := []int{Local, Global, Weak, Undef, Reserve, Abs, Common, XIndex}
	for k, want := range []int{0, 1, 2, 0, 65280, 65521, 65522, 65535} {
		if constants[k] != want {
			t.Errorf("constant %d is %d, want %d", k, constants[k], want)
		}
	}
}

// P8.3
func TestBindAndKind(t *testing.T) {
	cases := []struct{ info, bind, kind uint64 }{
		{0, 0, 0},
		{1, 0, 1},
		{0xf, 0, 15},
		{0x10, 1, 0},
		{0x23, 2, 3},
		{0xf0, 15, 0},
		{0xff, 15, 15},
		{0x100, 0, 0},
		{0x123, 2, 3},
		{1 << 63, 0, 0},
		{math.MaxUint64, 15, 15},
		{math.MaxUint64 - 0xff, 0, 0},
	}
	for _, c := range cases {
		s := Symbol{Name: 99, Info: c.info, Other: 99, Shndx: 99, Value: 99, Size: 99}
		if s.Bind() != c.bind || s.Kind() != c.kind {
			t.Errorf("Info %#x: Bind %d, Kind %d, want %d, %d", c.info, s.Bind(), s.Kind(), c.bind, c.kind)
		}
	}
}

// P8.3: Bind and Kind take a byte apart, and Info puts it together.
func TestInfoOfBytes(t *testing.T) {
	for n := range uint64(256) {
		s := Symbol{Info: n}
		if s.Bind() != n/16 || s.Kind() != n%16 || Info(s.Bind(), s.Kind()) != n {
			t.Errorf("%#x: Bind %d, Kind %d, Info of them %#x", n, s.Bind(), s.Kind(), Info(s.Bind(), s.Kind()))
		}
	}
}

// P8.3: of the arguments of Info, the lowest four bits count.
func TestInfo(t *testing.T) {
	cases := []struct{ bind, kind, want uint64 }{
		{Local, 0, 0},
		{Global, 0, 0x10},
		{Weak, 3, 0x23},
		{0, 15, 0x0f},
		{15, 0, 0xf0},
		{15, 15, 0xff},
		{16, 0, 0},
		{0, 16, 0},
		{17, 18, 0x12},
		{0x100, 0x100, 0},
		{1 << 60, 1 << 60, 0},
		{1 << 63, 1 << 63, 0},
		{math.MaxUint64, 0, 0xf0},
		{0, math.MaxUint64, 0x0f},
		{math.MaxUint64, math.MaxUint64, 0xff},
		{math.MaxUint64 - 13, math.MaxUint64 - 12, 0x23},
	}
	for _, c := range cases {
		if got := Info(c.bind, c.kind); got != c.want {
			t.Errorf("Info(%#x, %#x) = %#x, want %#x", c.bind, c.kind, got, c.want)
		}
	}
}
