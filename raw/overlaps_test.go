package raw

import (
	"math"
	"math/rand"
	"slices"
	"testing"

	"graver/api"
	"graver/phdr"
	"graver/shdr"
)

// has tells whether a byte is one of those of a section in the file.
func has(x shdr.Section, at uint64) bool {
	return x.Type != 0 && x.Type != 8 && at >= x.Offset && at-x.Offset < x.Size
}

// P11.3: all types, in files of few bytes, byte by byte.
func TestOverlapsAndCoveredByteByByte(t *testing.T) {
	random := rand.New(rand.NewSource(113))
	for range 20000 {
		f := File{Sections: make([]shdr.Section, random.Intn(8))}
		for i := range f.Sections {
			f.Sections[i] = shdr.Section{Type: uint64(random.Intn(10)), Offset: uint64(random.Intn(12)), Size: uint64(random.Intn(6))}
		}
		x := phdr.Segment{Type: uint64(random.Intn(3)), Offset: uint64(random.Intn(12)), FileSize: uint64(random.Intn(12)), VAddr: 5, MemSize: 2}
		f.Segments = []phdr.Segment{{FileSize: 3}, x}
		if got, want := f.Overlaps(), overlaps(f); !slices.Equal(got, want) {
			t.Fatalf("%+v: Overlaps = %v, want %v", f.Sections, got, want)
		}
		if got, want := f.Covered(1), covered(f, x); !slices.Equal(got, want) {
			t.Fatalf("%+v, %+v: Covered = %v, want %v", f.Sections, x, got, want)
		}
	}
}

func overlaps(f File) [][2]int {
	var l [][2]int
	for high, y := range f.Sections {
		for low, x := range f.Sections[:high] {
			shared := false
			for at := range uint64(20) {
				shared = shared || has(x, at) && has(y, at)
			}
			if shared {
				l = append(l, [2]int{low, high})
			}
		}
	}
	return l
}

func covered(f File, segment phdr.Segment) []int {
	var l []int
	for i, x := range f.Sections {
		inside, outside := 0, 0
		for at := range uint64(20) {
			if has(x, at) && at >= segment.Offset && at-segment.Offset < segment.FileSize {
				inside++
			} else if has(x, at) {
				outside++
			}
		}
		if inside > 0 && outside == 0 {
			l = append(l, i)
		}
	}
	return l
}

// section of these bytes.
func section(at, size uint64) shdr.Section {
	return shdr.Section{Type: shdr.ProgBits, Offset: at, Size: size}
}

// P11.3
func TestOverlaps(t *testing.T) {
	cases := []struct {
		l    []shdr.Section
		want [][2]int
	}{
		{nil, nil},
		{[]shdr.Section{{}}, nil},
		{[]shdr.Section{section(0, 9)}, nil},
		{[]shdr.Section{{}, section(4, 4), section(8, 4)}, nil},
		{[]shdr.Section{{}, section(8, 4), section(4, 4)}, nil},
		{[]shdr.Section{{}, section(4, 5), section(8, 4)}, [][2]int{{1, 2}}},
		{[]shdr.Section{{}, section(8, 4), section(4, 5)}, [][2]int{{1, 2}}},
		{[]shdr.Section{{}, section(4, 4), section(4, 4)}, [][2]int{{1, 2}}},
		{[]shdr.Section{{}, section(4, 9), section(8, 1)}, [][2]int{{1, 2}}},
		{[]shdr.Section{{}, section(4, 9), section(8, 0)}, nil},
		{[]shdr.Section{{}, section(4, 0), section(4, 0)}, nil},
		{[]shdr.Section{{}, section(4, 9), {Type: shdr.NoBits, Offset: 4, Size: 9}, {Offset: 4, Size: 9}}, nil},
		{
			[]shdr.Section{{}, section(0, 9), section(20, 2), section(8, 13), section(5, 1), section(8, 1)},
			[][2]int{{1, 3}, {2, 3}, {1, 4}, {1, 5}, {3, 5}},
		},

		// Bytes up to the greatest position, and beyond it.
		{[]shdr.Section{section(0, math.MaxUint64), section(math.MaxUint64-1, 1)}, [][2]int{{0, 1}}},
		{[]shdr.Section{section(0, math.MaxUint64), section(math.MaxUint64, 1)}, nil},
		{[]shdr.Section{section(5, math.MaxUint64), section(4, 1), section(0, 5)}, [][2]int{{1, 2}}},
		{[]shdr.Section{section(5, math.MaxUint64), section(10, 3)}, [][2]int{{0, 1}}},
		{[]shdr.Section{section(10, 3), section(5, math.MaxUint64)}, [][2]int{{0, 1}}},
	}
	for _, c := range cases {
		f := File{Sections: c.l}
		if got := f.Overlaps(); !slices.Equal(got, c.want) {
			t.Errorf("%+v: Overlaps = %v, want %v", c.l, got, c.want)
		}
	}
}

// P11.3: many sections that share a byte, in the order of the chapter.
func TestOverlapsOfMany(t *testing.T) {
	const n = 1000
	f := File{Sections: make([]shdr.Section, n)}
	for i := range f.Sections {
		f.Sections[i] = section(uint64(n-i), n)
	}
	got := f.Overlaps()
	if len(got) != n*(n-1)/2 {
		t.Fatal(len(got))
	}
	at := 0
	for high := range n {
		for low := range high {
			if got[at] != [2]int{low, high} {
				t.Fatalf("pair %d is %v", at, got[at])
			}
			at++
		}
	}
}

// P11.3
func TestCovered(t *testing.T) {
	l := []shdr.Section{
		{}, section(10, 5), section(9, 1), section(9, 2), section(15, 0), section(12, 0), section(14, 2), section(14, 1),
		{Type: shdr.NoBits, Offset: 11, Size: 2}, section(0, 100), section(12, 1), section(15, 1), {Offset: 11, Size: 2},
	}
	cases := []struct {
		x    phdr.Segment
		want []int
	}{
		{phdr.Segment{Offset: 10, FileSize: 5}, []int{1, 7, 10}},
		{phdr.Segment{Offset: 10, FileSize: 5, Type: 9, VAddr: 1, PAddr: 2, MemSize: 1, Align: 3}, []int{1, 7, 10}},
		{phdr.Segment{Offset: 10, FileSize: 4, MemSize: 100}, []int{10}},
		{phdr.Segment{Offset: 10, FileSize: 6}, []int{1, 6, 7, 10, 11}},
		{phdr.Segment{Offset: 9, FileSize: 6}, []int{1, 2, 3, 7, 10}},
		{phdr.Segment{Offset: 0, FileSize: 100}, []int{1, 2, 3, 6, 7, 9, 10, 11}},
		{phdr.Segment{Offset: 0, FileSize: 99}, []int{1, 2, 3, 6, 7, 10, 11}},
		{phdr.Segment{Offset: 1, FileSize: 100}, []int{1, 2, 3, 6, 7, 10, 11}},
		{phdr.Segment{Offset: 10, FileSize: 0}, nil},
		{phdr.Segment{}, nil},
		{phdr.Segment{Offset: 200, FileSize: 100}, nil},
		{phdr.Segment{Offset: 10, FileSize: math.MaxUint64}, []int{1, 6, 7, 10, 11}},
		{phdr.Segment{Offset: math.MaxUint64, FileSize: math.MaxUint64}, nil},
	}
	for i, c := range cases {
		f := File{Sections: l, Segments: make([]phdr.Segment, len(cases))}
		f.Segments[i] = c.x
		if got := f.Covered(i); !slices.Equal(got, c.want) {
			t.Errorf("%+v: Covered = %v, want %v", c.x, got, c.want)
		}
	}
	f := File{Sections: l, Segments: []phdr.Segment{{FileSize: 100}}}
	for _, i := range append(beyond, 1) {
		if got := f.Covered(i); len(got) != 0 {
			t.Errorf("Covered(%d) = %v", i, got)
		}
	}
}

// P11.3: of files that are parsed.
func TestOverlapsAndCoveredOfFiles(t *testing.T) {
	for _, form := range forms {
		d := whole(form)
		body := d.sections[1].Offset
		d.sections[3] = section(body+15, 2)
		f, e := Parse(d.bytes(t))
		if got := f.Overlaps(); e != api.OK || !slices.Equal(got, [][2]int{{1, 3}, {2, 3}}) {
			t.Errorf("%v: Overlaps = %v, %v", form, got, e)
		}
		for i, want := range [][]int{{1, 3}, {2}} {
			if got := f.Covered(i); !slices.Equal(got, want) {
				t.Errorf("%v: Covered(%d) = %v, want %v", form, i, got, want)
			}
		}
	}
}
