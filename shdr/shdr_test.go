package shdr

import (
	"strings"
	"testing"

	"graver/class"
	"graver/order"
)

var forms = []class.Form{
	{},
	{Wide: true},
	{Order: order.Order{Big: true}},
	{Order: order.Order{Big: true}, Wide: true},
}

// P6.1
func TestSize(t *testing.T) {
	for _, f := range forms {
		want := 40
		if f.Wide {
			want = 64
		}
		if got := Size(f); got != want {
			t.Errorf("Size(%v) = %d", f, got)
		}
	}
}

var counted = Section{Name: 1, Type: 2, Flags: 3, Addr: 4, Offset: 5, Size: 6, Link: 7, Info: 8, Align: 9, EntSize: 10}

const (
	narrowLittle = "\x01\x00\x00\x00\x02\x00\x00\x00\x03\x00\x00\x00\x04\x00\x00\x00\x05\x00\x00\x00" +
		"\x06\x00\x00\x00\x07\x00\x00\x00\x08\x00\x00\x00\x09\x00\x00\x00\x0a\x00\x00\x00"
	wideLittle = "\x01\x00\x00\x00\x02\x00\x00\x00" +
		"\x03\x00\x00\x00\x00\x00\x00\x00\x04\x00\x00\x00\x00\x00\x00\x00" +
		"\x05\x00\x00\x00\x00\x00\x00\x00\x06\x00\x00\x00\x00\x00\x00\x00" +
		"\x07\x00\x00\x00\x08\x00\x00\x00" +
		"\x09\x00\x00\x00\x00\x00\x00\x00\x0a\x00\x00\x00\x00\x00\x00\x00"
	narrowBig = "\x00\x00\x00\x01\x00\x00\x00\x02\x00\x00\x00\x03\x00\x00\x00\x04\x00\x00\x00\x05" +
		"\x00\x00\x00\x06\x00\x00\x00\x07\x00\x00\x00\x08\x00\x00\x00\x09\x00\x00\x00\x0a"
	wideBig = "\x00\x00\x00\x01\x00\x00\x00\x02" +
		"\x00\x00\x00\x00\x00\x00\x00\x03\x00\x00\x00\x00\x00\x00\x00\x04" +
		"\x00\x00\x00\x00\x00\x00\x00\x05\x00\x00\x00\x00\x00\x00\x00\x06" +
		"\x00\x00\x00\x07\x00\x00\x00\x08" +
		"\x00\x00\x00\x00\x00\x00\x00\x09\x00\x00\x00\x00\x00\x00\x00\x0a"
)

// P6.1, P6.2; each field alone: see record/layers_test.go.
func TestPutAndRead(t *testing.T) {
	for k, want := range []string{narrowLittle, wideLittle, narrowBig, wideBig} {
		f := forms[k]
		if got, ok := Put(f, counted); got != want || !ok {
			t.Errorf("Put(%v) = %q, %v, want %q", f, got, ok, want)
		}
		for _, more := range []string{"", "x", strings.Repeat("more", 100)} {
			if got, ok := Read(f, want+more); got != counted || !ok {
				t.Errorf("Read(%v) = %v, %v", f, got, ok)
			}
		}
		if got, ok := Read(f, want[:len(want)-1]); got != (Section{}) || ok {
			t.Errorf("Read(%v) of too few bytes = %v, %v", f, got, ok)
		}
	}
}
