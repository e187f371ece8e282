package raw

import (
	"math"
	"slices"
	"testing"

	"graver/api"
	"graver/class"
	"graver/ehdr"
	"graver/phdr"
	"graver/shdr"
	"graver/span"
)

// indices that no list of fewer than five has.
var beyond = []int{-1, 4, 5, 1 << 20, math.MaxInt, math.MinInt}

// P11.2
func TestDataAndImage(t *testing.T) {
	for _, f := range forms {
		s := whole(f).bytes(t)
		file, e := Parse(s)
		if e != api.OK {
			t.Fatal(e)
		}
		body := headSize(f) + 2*segmentSize(f)
		for i, want := range []string{"", s[body:][:16], s[body+16:][:48], ""} {
			if got := file.Data(s, i); got != want {
				t.Errorf("%v: Data(%d) = %q, want %q", f, i, got, want)
			}
		}
		for i, want := range []string{s[:body+20], s[body+16:][:48]} {
			if got := file.Image(s, i); got != want {
				t.Errorf("%v: Image(%d) = %q, want %q", f, i, got, want)
			}
		}
		for _, i := range beyond {
			if file.Data(s, i) != "" || file.Image(s, i) != "" {
				t.Errorf("%v: bytes of section or segment %d", f, i)
			}
		}
		if got := file.Image(s, 2); got != "" {
			t.Errorf("%v: Image(2) = %q", f, got)
		}
	}
	for _, i := range append(beyond, 0) {
		if (File{}).Data("abc", i) != "" || (File{}).Image("abc", i) != "" {
			t.Errorf("bytes of section or segment %d of no file", i)
		}
	}
}

// P11.2: sections without bytes in the file have none, whatever their headers
// tell.
func TestDataByTypes(t *testing.T) {
	for kind := range uint64(20) {
		f := File{Sections: []shdr.Section{{Type: kind, Offset: 1, Size: 3}}}
		want := "bcd"
		if kind == shdr.Null || kind == shdr.NoBits {
			want = ""
		}
		if got := f.Data("abcdef", 0); got != want {
			t.Errorf("type %d: %q, want %q", kind, got, want)
		}
	}
}

// P1: bytes that are not there, of files that are none.
func TestDataAndImageBeyondTheFile(t *testing.T) {
	const s = "abcdef"
	for _, x := range [][2]uint64{
		{7, 0}, {4, 3}, {6, 1}, {0, 7}, {0, math.MaxUint64}, {math.MaxUint64, 0}, {math.MaxUint64, 3}, {math.MaxUint64 - 1, 2}, {3, math.MaxUint64 - 2},
	} {
		f := File{
			Sections: []shdr.Section{{Type: shdr.ProgBits, Offset: x[0], Size: x[1]}},
			Segments: []phdr.Segment{{Offset: x[0], FileSize: x[1]}},
		}
		if f.Data(s, 0) != "" || f.Image(s, 0) != "" {
			t.Errorf("%d: %q, %q", x, f.Data(s, 0), f.Image(s, 0))
		}
	}
}

// P11.2
func TestHasData(t *testing.T) {
	for kind := range uint64(300) {
		want := kind != 0 && kind != 8
		for _, x := range []shdr.Section{{}, {Offset: 1, Size: 5}, {Flags: 7, Size: math.MaxUint64}} {
			x.Type = kind
			if HasData(x) != want {
				t.Errorf("HasData(%+v) = %v", x, !want)
			}
		}
	}
	for _, kind := range []uint64{1 << 32, 1<<32 + 8, math.MaxUint64} {
		if !HasData(shdr.Section{Type: kind}) {
			t.Errorf("a section of type %d has no bytes", kind)
		}
	}
}

// P11.2
func TestSpans(t *testing.T) {
	for _, f := range forms {
		head, one, segment := headSize(f), sectionSize(f), segmentSize(f)
		body := head + 2*segment
		cases := []struct {
			name string
			d    *draft
			want []span.Span
		}{
			{"whole", whole(f), []span.Span{
				{At: 0, Len: head}, {At: body + 64, Len: 4 * one}, {At: head, Len: 2 * segment},
				{At: body, Len: 16}, {At: body + 16, Len: 48},
				{At: 0, Len: body + 20}, {At: body + 16, Len: 48},
			}},
			{"segments only", segmentsOnly(f), []span.Span{
				{At: 0, Len: head}, {}, {At: head + 64, Len: 2 * segment},
				{At: 0, Len: head + 64 + 2*segment}, {At: head, Len: 64},
			}},
			{"header alone", &draft{Ident: class.Ident{Form: f}, head: ehdr.Plain(f), size: head + 9}, []span.Span{{Len: head}, {}, {}}},
		}
		for _, c := range cases {
			file, e := Parse(c.d.bytes(t))
			if got := file.Spans(); e != api.OK || !slices.Equal(got, c.want) {
				t.Errorf("%v, %s: Spans = %v, %v, want %v", f, c.name, got, e, c.want)
			}
		}
	}
}

// P11.2: sections of no bytes and the first section; a table of segments that is
// told of, but has none; numbers that the first section header has.
func TestSpansOfEmptyThings(t *testing.T) {
	for _, f := range forms {
		d := whole(f)
		d.segments = nil
		d.head.Phnum = 0
		d.sections[0] = shdr.Section{Offset: 1, Size: 4}
		d.head.Shnum = 0
		d.sections[1].Size = 0
		d.sections[3] = shdr.Section{Type: shdr.Note, Offset: d.size}
		want := []span.Span{
			{Len: headSize(f)}, {At: d.head.Shoff, Len: 4 * sectionSize(f)}, {},
			{At: d.sections[1].Offset}, {At: d.sections[2].Offset, Len: 48}, {At: d.size},
		}
		file, e := Parse(d.bytes(t))
		if got := file.Spans(); e != api.OK || !slices.Equal(got, want) {
			t.Errorf("%v: Spans = %v, %v, want %v", f, got, e, want)
		}
	}
}
