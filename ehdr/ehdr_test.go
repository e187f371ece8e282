package ehdr

import (
	"math"
	"strings"
	"testing"

	"graver/api"
	"graver/class"
	"graver/order"
)

var forms = []class.Form{
	{},
	{Wide: true},
	{Order: order.Order{Big: true}},
	{Order: order.Order{Big: true}, Wide: true},
}

// P5.1
func TestSize(t *testing.T) {
	for _, f := range forms {
		want := 36
		if f.Wide {
			want = 48
		}
		if got := Size(f); got != want {
			t.Errorf("Size(%v) = %d", f, got)
		}
	}
}

var counted = Head{Type: 1, Machine: 2, Version: 3, Entry: 4, Phoff: 5, Shoff: 6, Flags: 7, Ehsize: 8, Phentsize: 9, Phnum: 10, Shentsize: 11, Shnum: 12, Shstrndx: 13}

const (
	narrowLittle = "\x01\x00\x02\x00\x03\x00\x00\x00" +
		"\x04\x00\x00\x00\x05\x00\x00\x00\x06\x00\x00\x00" +
		"\x07\x00\x00\x00\x08\x00\x09\x00\x0a\x00\x0b\x00\x0c\x00\x0d\x00"
	wideLittle = "\x01\x00\x02\x00\x03\x00\x00\x00" +
		"\x04\x00\x00\x00\x00\x00\x00\x00\x05\x00\x00\x00\x00\x00\x00\x00\x06\x00\x00\x00\x00\x00\x00\x00" +
		"\x07\x00\x00\x00\x08\x00\x09\x00\x0a\x00\x0b\x00\x0c\x00\x0d\x00"
	narrowBig = "\x00\x01\x00\x02\x00\x00\x00\x03" +
		"\x00\x00\x00\x04\x00\x00\x00\x05\x00\x00\x00\x06" +
		"\x00\x00\x00\x07\x00\x08\x00\x09\x00\x0a\x00\x0b\x00\x0c\x00\x0d"
	wideBig = "\x00\x01\x00\x02\x00\x00\x00\x03" +
		"\x00\x00\x00\x00\x00\x00\x00\x04\x00\x00\x00\x00\x00\x00\x00\x05\x00\x00\x00\x00\x00\x00\x00\x06" +
		"\x00\x00\x00\x07\x00\x08\x00\x09\x00\x0a\x00\x0b\x00\x0c\x00\x0d"
)

// P5.1, P5.2; each field alone: see record/layers_test.go.
func TestPutAndRead(t *testing.T) {
	for k, want := range []string{narrowLittle, wideLittle, narrowBig, wideBig} {
		f := forms[k]
		if got, ok := Put(f, counted); got != want || !ok {
			t.Errorf("Put(%v) = %q, %v, want %q", f, got, ok, want)
		}
		for _, more := range []string{"", "x", strings.Repeat("more", 100)} {
			if got, ok := Read(f, want+more); got != counted || !ok {
				t.Errorf("Read(%v) = %v, %v", f, got, ok)
			}
		}
		if got, ok := Read(f, want[:len(want)-1]); got != (Head{}) || ok {
			t.Errorf("Read(%v) of too few bytes = %v, %v", f, got, ok)
		}
	}
}

// P5.3
func TestPlain(t *testing.T) {
	for _, f := range forms {
		want := Head{Version: 1, Ehsize: 52, Phentsize: 32, Shentsize: 40}
		if f.Wide {
			want = Head{Version: 1, Ehsize: 64, Phentsize: 56, Shentsize: 64}
		}
		got := Plain(f)
		if got != want || got.Check(f) != api.OK {
			t.Errorf("Plain(%v) = %v, checked as %d", f, got, got.Check(f))
		}
	}
}

// P5.3
func TestCheck(t *testing.T) {
	cases := []struct {
		name   string
		change func(h *Head)
		want   api.Errno
	}{
		{"nothing", func(h *Head) {}, api.OK},
		{"tables", func(h *Head) { h.Phoff, h.Shoff = 1, math.MaxUint64 }, api.OK},
		{"numbers that do not matter", func(h *Head) {
			h.Type, h.Machine, h.Entry, h.Flags, h.Phnum, h.Shnum, h.Shstrndx = 1, 2, 3, 4, 5, 6, 7
		}, api.OK},
		{"counts and sizes without tables", func(h *Head) { h.Phnum, h.Shnum, h.Phentsize, h.Shentsize = 9, 9, 9, 9 }, api.OK},
		{"no version", func(h *Head) { h.Version = 0 }, api.ErrVersion},
		{"version 2", func(h *Head) { h.Version = 2 }, api.ErrVersion},
		{"a great version", func(h *Head) { h.Version = 1<<32 + 1 }, api.ErrVersion},
		{"version ahead of sizes", func(h *Head) { h.Version, h.Ehsize, h.Phoff, h.Phentsize = 2, 0, 1, 0 }, api.ErrVersion},
		{"no size", func(h *Head) { h.Ehsize = 0 }, api.ErrSize},
		{"a size less by 1", func(h *Head) { h.Ehsize-- }, api.ErrSize},
		{"a size greater by 1", func(h *Head) { h.Ehsize++ }, api.ErrSize},
		{"a size greater by 2^32", func(h *Head) { h.Ehsize += 1 << 32 }, api.ErrSize},
		{"a size without the ident", func(h *Head) { h.Ehsize -= 16 }, api.ErrSize},
		{"segments of another size", func(h *Head) { h.Phoff, h.Phentsize = 1, h.Phentsize+1 }, api.ErrSize},
		{"segments without a size", func(h *Head) { h.Phoff, h.Phentsize = 1<<63, 0 }, api.ErrSize},
		{"sections of another size", func(h *Head) { h.Shoff, h.Shentsize = 1, h.Shentsize-1 }, api.ErrSize},
		{"sections without a size", func(h *Head) { h.Shoff, h.Shentsize = 1<<63, 0 }, api.ErrSize},
		{"no segments, and sections", func(h *Head) { h.Shoff, h.Phentsize = 1, 0 }, api.OK},
		{"no sections, and segments", func(h *Head) { h.Phoff, h.Shentsize = 1, 0 }, api.OK},
		{"both of another size", func(h *Head) { h.Phoff, h.Shoff, h.Phentsize, h.Shentsize = 1, 1, 1, 1 }, api.ErrSize},
		{"sizes swapped", func(h *Head) { h.Phoff, h.Shoff, h.Phentsize, h.Shentsize = 1, 1, h.Shentsize, h.Phentsize }, api.ErrSize},
	}
	for _, c := range cases {
		for _, f := range forms {
			h := Plain(f)
			c.change(&h)
			if got := h.Check(f); got != c.want {
				t.Errorf("%s, %v: %d, want %d", c.name, f, got, c.want)
			}
		}
	}
}

// P5.3: a plain header of one width is none of the other.
func TestCheckOfAnotherForm(t *testing.T) {
	for _, f := range forms {
		for _, other := range forms {
			want := api.OK
			if f.Wide != other.Wide {
				want = api.ErrSize
			}
			if got := Plain(f).Check(other); got != want {
				t.Errorf("Plain(%v).Check(%v) = %d, want %d", f, other, got, want)
			}
		}
	}
	if got := (Head{}).Check(forms[0]); got != api.ErrVersion {
		t.Errorf("an empty header: %d", got)
	}
}
