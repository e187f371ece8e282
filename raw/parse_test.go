package raw

import (
	"math"
	"math/rand"
	"strings"
	"testing"

	"graver/api"
	"graver/class"
	"graver/ehdr"
	"graver/phdr"
	"graver/shdr"
)

// P11.1
func TestParse(t *testing.T) {
	for _, f := range forms {
		whole(f).good(t, 1)
		segmentsOnly(f).good(t, 0)
	}
}

// P11.1: the chapter's example. More bytes may follow the header.
func TestParseOfAHeaderAlone(t *testing.T) {
	for _, f := range forms {
		for _, more := range []uint64{0, 1, 100} {
			d := &draft{Ident: class.Ident{Form: f, Pad: "\x00\x00\x00\x00\x00\x00\x00"}, head: ehdr.Plain(f), size: headSize(f) + more}
			d.good(t, 0)
		}
	}
}

// P11.1: of a file that needs all its bytes, none can be missing.
func TestParseOfEveryCut(t *testing.T) {
	for _, f := range forms {
		for _, s := range []string{whole(f).bytes(t), segmentsOnly(f).bytes(t)} {
			for n := range len(s) {
				want := api.ErrRange
				if n < int(headSize(f)) {
					want = api.ErrShort
				}
				if got, e := Parse(s[:n]); e != want || !equal(got, File{}) {
					t.Errorf("%v: Parse of %d bytes of %d = %+v, %v, want %v", f, n, len(s), got, e, want)
				}
			}
		}
	}
}

// P11.1: errors of layers 4 and 5.
func TestParseOfAnotherIdentOrHeader(t *testing.T) {
	for _, f := range forms {
		for at, want := range map[int]api.Errno{
			0: api.ErrMagic, 3: api.ErrMagic, 4: api.ErrClass, 5: api.ErrData, 6: api.ErrVersion,
		} {
			d := whole(f)
			d.patches = []patch{{at, 9}}
			d.bad(t, want)
		}
		for _, change := range []func(h *ehdr.Head){
			func(h *ehdr.Head) { h.Ehsize-- },
			func(h *ehdr.Head) { h.Phentsize++ },
			func(h *ehdr.Head) { h.Shentsize = 0 },
		} {
			d := whole(f)
			change(&d.head)
			d.bad(t, api.ErrSize)
		}
		d := whole(f)
		d.head.Version = 0
		d.bad(t, api.ErrVersion)
	}
}

// P11.1
func TestParseOfLongFiles(t *testing.T) {
	for _, f := range forms {
		d := whole(f)
		d.size = api.MaxFile
		d.good(t, 1)
		d.size++
		d.bad(t, api.ErrLong)
	}
	for _, n := range []int{0, 1} {
		want := api.ErrMagic
		if n > 0 {
			want = api.ErrLong
		}
		if _, e := Parse(strings.Repeat("x", api.MaxFile+n)); e != want {
			t.Errorf("%d more bytes: %v, want %v", n, e, want)
		}
	}
}

// P11.1
func TestParseWithoutSections(t *testing.T) {
	for _, f := range forms {
		for _, n := range []uint64{1, 4, 0xff00, 0xffff} {
			d := segmentsOnly(f)
			d.head.Shnum = n
			d.bad(t, api.ErrCount)
			d = segmentsOnly(f)
			d.head.Shstrndx = n
			d.bad(t, api.ErrIndex)
		}
		// The size of section headers does not matter, nor does anything else
		// of the header that is not asked for.
		d := segmentsOnly(f)
		d.head.Shentsize = 9
		d.good(t, 0)
	}
}

// P11.1: a number of sections of 0 is that of the first section header, and
// otherwise its Size does not matter.
func TestParseCountsSections(t *testing.T) {
	for _, f := range forms {
		for _, size := range []uint64{0, 1, 4, 5, 1 << 31} {
			d := whole(f)
			d.sections[0].Size = size
			d.good(t, 1)
		}
		d := whole(f)
		d.head.Shnum, d.sections[0].Size = 0, 4
		d.good(t, 1)
		for size, want := range map[uint64]api.Errno{
			0: api.ErrCount, 5: api.ErrRange, 4096: api.ErrRange, 4097: api.ErrCount, 1 << 31: api.ErrCount,
		} {
			d := whole(f)
			d.head.Shnum, d.sections[0].Size = 0, size
			d.bad(t, want)
		}
		for n, want := range map[uint64]api.Errno{
			5: api.ErrRange, 4096: api.ErrRange, 4097: api.ErrCount, 0xffff: api.ErrCount,
		} {
			d := whole(f)
			d.head.Shnum = n
			d.bad(t, want)
		}
		d = whole(f)
		d.head.Shnum, d.sections = 1, d.sections[:1]
		d.head.Shstrndx = 0
		d.good(t, 0)
	}
	d := whole(class.Form{Wide: true})
	d.head.Shnum = 0
	for _, size := range []uint64{math.MaxUint64, 1 << 58, 1<<58 + 4, 1 << 63} {
		d.sections[0].Size = size
		d.bad(t, api.ErrCount)
	}
}

// P11.1: as many sections as there can be, and one more.
func TestParseOfManySections(t *testing.T) {
	for _, f := range forms {
		for _, first := range []bool{false, true} {
			for n := uint64(api.MaxSections); n <= api.MaxSections+1; n++ {
				d := whole(f)
				d.sections = make([]shdr.Section, n)
				d.sections[n-2] = shdr.Section{Type: shdr.StrTab, Offset: 1, Size: 2}
				d.head.Shnum, d.head.Shstrndx = n, n-1
				if first {
					d.head.Shnum, d.sections[0].Size = 0, n
				}
				d.size += n * sectionSize(f)
				if n > api.MaxSections {
					d.bad(t, api.ErrCount)
				} else {
					d.good(t, n-1)
				}
			}
		}
	}
}

// P11.1: where the table of sections is.
func TestParseFindsSections(t *testing.T) {
	for _, f := range forms {
		size := sectionSize(f)
		for less, want := range map[uint64]api.Errno{
			4*size - 1: api.ErrRange, 3 * size: api.ErrRange, size: api.ErrRange, size - 1: api.ErrRange, 1: api.ErrRange, 0: api.ErrRange,
		} {
			d := whole(f)
			d.head.Shoff = d.size - less
			d.bad(t, want)
		}
		d := whole(f)
		for _, at := range []uint64{d.size + 1, 1<<32 - 1, 1<<32 - size} {
			d.head.Shoff = at
			d.bad(t, api.ErrRange)
		}
		// A table may have bytes in common with other things.
		d = whole(f)
		d.sections = []shdr.Section{{}, {Type: shdr.ProgBits, Offset: 5, Size: 70}}
		d.head.Shoff, d.head.Shnum, d.head.Shstrndx = d.head.Phoff+segmentSize(f)*2+7, 2, 0
		d.good(t, 0)
	}
	d := whole(class.Form{Wide: true})
	for _, at := range []uint64{math.MaxUint64, math.MaxUint64 - 63, 1 << 63} {
		d.head.Shoff = at
		d.bad(t, api.ErrRange)
	}
}

// P11.1
func TestParseWantsANullSectionFirst(t *testing.T) {
	for _, f := range forms {
		for _, kind := range []uint64{shdr.ProgBits, shdr.StrTab, shdr.NoBits, 1<<32 - 1} {
			d := whole(f)
			d.sections[0].Type = kind
			d.bad(t, api.ErrType)
		}
		// Nothing else of it matters.
		d := whole(f)
		d.sections[0] = shdr.Section{Name: 1, Flags: 2, Addr: 3, Offset: 1 << 31, Size: 5, Link: 6, Info: 7, Align: 8, EntSize: 9}
		d.good(t, 1)
	}
}

// P11.1: an index of the table of names of 65535 is that of the first section
// header. A section of any type may be meant.
func TestParseFindsNames(t *testing.T) {
	for _, f := range forms {
		for n := range uint64(4) {
			d := whole(f)
			d.head.Shstrndx = n
			d.sections[0].Link = 9
			d.good(t, n)
			d.head.Shstrndx, d.sections[0].Link = 0xffff, n
			d.good(t, n)
		}
		for _, n := range []uint64{4, 5, 0xff00, 0xfff1, 0xfffe} {
			d := whole(f)
			d.head.Shstrndx = n
			d.bad(t, api.ErrIndex)
		}
		for _, n := range []uint64{4, 0xffff, 1 << 16, 1<<32 - 1} {
			d := whole(f)
			d.head.Shstrndx, d.sections[0].Link = 0xffff, n
			d.bad(t, api.ErrIndex)
		}
	}
}

// P11.1: a number of segments of 65535 is that of the first section header, if
// there is one.
func TestParseCountsSegments(t *testing.T) {
	for _, f := range forms {
		for n := range uint64(3) {
			d := whole(f)
			d.segments = d.segments[:n]
			d.head.Phnum = n
			d.sections[0].Info = 9
			d.good(t, 1)
			d.head.Phnum, d.sections[0].Info = 0xffff, n
			d.good(t, 1)
		}
		// The first section is enough.
		d := whole(f)
		d.sections = d.sections[:1]
		d.head.Shnum, d.head.Shstrndx = 1, 0
		d.head.Phnum, d.sections[0].Info = 0xffff, 2
		d.good(t, 0)
		for _, n := range []uint64{257, 258, 0xfffe, 0xffff} {
			d := segmentsOnly(f)
			d.head.Phnum = n
			d.bad(t, api.ErrCount)
		}
		for _, n := range []uint64{257, 0xffff, 1 << 16, 1<<32 - 1} {
			d := whole(f)
			d.head.Phnum, d.sections[0].Info = 0xffff, n
			d.bad(t, api.ErrCount)
		}
	}
}

// P11.1: as many segments as there can be, and one more.
func TestParseOfManySegments(t *testing.T) {
	for _, f := range forms {
		for _, first := range []bool{false, true} {
			for n := uint64(api.MaxSegments); n <= api.MaxSegments+1; n++ {
				d := whole(f)
				d.segments = make([]phdr.Segment, n)
				d.head.Phoff, d.head.Phnum = d.size, n
				if first {
					d.head.Phnum, d.sections[0].Info = 0xffff, n
				}
				d.size += n * segmentSize(f)
				if n > api.MaxSegments {
					d.bad(t, api.ErrCount)
				} else {
					d.good(t, 1)
				}
			}
		}
	}
}

// P11.1: where the table of segments is; without segments its position does not
// matter.
func TestParseFindsSegments(t *testing.T) {
	for _, f := range forms {
		size := segmentSize(f)
		for _, draft := range []func(class.Form) *draft{whole, segmentsOnly} {
			d := draft(f)
			for _, at := range []uint64{d.size - 2*size + 1, d.size - size, d.size - 1, d.size, d.size + 1, 1<<32 - 1, 1<<32 - 2*size} {
				d := draft(f)
				d.head.Phoff = at
				d.bad(t, api.ErrRange)
			}
			d = draft(f)
			d.head.Phoff = 0
			d.bad(t, api.ErrCount)
			for _, at := range []uint64{0, 1, d.size, d.size + 1, 1<<32 - 1} {
				d := draft(f)
				d.segments = nil
				d.head.Phoff, d.head.Phnum = at, 0
				_, e := Parse(d.bytes(t))
				if e != api.OK {
					t.Errorf("%v: no segments at %d: %v", f, at, e)
				}
			}
		}
	}
	d := whole(class.Form{Wide: true})
	for _, at := range []uint64{math.MaxUint64, math.MaxUint64 - 111, 1 << 63} {
		d.head.Phoff = at
		d.bad(t, api.ErrRange)
	}
}

// P11.1
func TestParseWantsPowersOfTwo(t *testing.T) {
	for _, f := range forms {
		bits := 8 * f.Word()
		for bit := range bits {
			for i := range 4 {
				d := whole(f)
				d.sections[i].Align = 1 << bit
				d.good(t, 1)
				if bit > 1 {
					d.sections[i].Align++
					d.bad(t, api.ErrAlign)
					d.sections[i].Align -= 2
					d.bad(t, api.ErrAlign)
				}
			}
		}
		for _, n := range []uint64{3, 6, 12, 1<<32 - 1, math.MaxUint64 >> (64 - bits), 3 << (bits - 2)} {
			d := whole(f)
			d.sections[3].Align = n
			d.bad(t, api.ErrAlign)
		}
		d := whole(f)
		d.segments[0].Align = 3
		d.good(t, 1)
	}
}

// reaches of bytes in a file of so many bytes, and whether they are all present.
func reaches(f class.Form, size uint64) map[[2]uint64]bool {
	last := uint64(math.MaxUint64) >> (64 - 8*f.Word())
	return map[[2]uint64]bool{
		{0, 0}: true, {0, 1}: true, {0, size}: true, {size, 0}: true, {size - 1, 1}: true, {1, size - 1}: true, {size - 1, 0}: true,
		{0, size + 1}: false, {1, size}: false, {size, 1}: false, {size - 1, 2}: false,
		{size + 1, 0}: false, {size + 1, 1}: false, {last, 0}: false, {last, 1}: false, {last, 2}: false,
		{0, last}: false, {1, last}: false, {last, last}: false, {last - 4, 5}: false, {last - 4, 6}: false, {size, last - size + 1}: false,
	}
}

// P11.1: the bytes of sections, but not those of Null and NoBits.
func TestParseWantsTheBytesOfSections(t *testing.T) {
	for _, f := range forms {
		size := whole(f).size
		for reach, present := range reaches(f, size) {
			for _, kind := range []uint64{shdr.Null, shdr.ProgBits, shdr.SymTab, shdr.StrTab, shdr.NoBits, 9, 1<<32 - 1} {
				d := whole(f)
				x := &d.sections[3]
				x.Type, x.Offset, x.Size = kind, reach[0], reach[1]
				if present || kind == shdr.Null || kind == shdr.NoBits {
					d.good(t, 1)
				} else {
					d.bad(t, api.ErrRange)
				}
			}
		}
	}
}

// P11.1: the bytes of segments, whatever their types are.
func TestParseWantsTheBytesOfSegments(t *testing.T) {
	for _, f := range forms {
		size := whole(f).size
		for reach, present := range reaches(f, size) {
			for _, kind := range []uint64{0, 1, 6, 1<<32 - 1} {
				d := whole(f)
				x := &d.segments[1]
				x.Type, x.Offset, x.FileSize = kind, reach[0], reach[1]
				if present {
					d.good(t, 1)
				} else {
					d.bad(t, api.ErrRange)
				}
			}
		}
	}
}

// fault of a draft, and the error for it.
type fault struct {
	name  string
	apply func(d *draft)
	want  api.Errno
}

// The faults that each file can have, in the order of the chapter.
var (
	firstFaults = []fault{
		{"long", func(d *draft) { d.size = api.MaxFile + 1 }, api.ErrLong},
		{"magic", func(d *draft) { d.patches = append(d.patches, patch{1, 'e'}) }, api.ErrMagic},
		{"class", func(d *draft) { d.patches = append(d.patches, patch{4, 3}) }, api.ErrClass},
		{"data", func(d *draft) { d.patches = append(d.patches, patch{5, 0}) }, api.ErrData},
		{"version of the ident", func(d *draft) { d.patches = append(d.patches, patch{6, 2}) }, api.ErrVersion},
		{"version", func(d *draft) { d.head.Version = 3 }, api.ErrVersion},
		{"size", func(d *draft) { d.head.Ehsize = 1 }, api.ErrSize},
	}
	noSectionsFaults = []fault{
		{"sections", func(d *draft) { d.head.Shnum = 1 }, api.ErrCount},
		{"names", func(d *draft) { d.head.Shstrndx = 0xffff }, api.ErrIndex},
	}
	sectionsFaults = []fault{
		{"first section", func(d *draft) { d.head.Shoff = d.size - sectionSize(d.Form) + 1 }, api.ErrRange},
		{"no number", func(d *draft) { d.head.Shnum, d.sections[0].Size = 0, 0 }, api.ErrCount},
		{"table", func(d *draft) { d.head.Shoff = d.size - 2*sectionSize(d.Form) }, api.ErrRange},
		{"first type", func(d *draft) { d.sections[0].Type = shdr.ProgBits }, api.ErrType},
		{"index", func(d *draft) { d.head.Shstrndx = 4 }, api.ErrIndex},
	}
	segmentsFaults = []fault{
		{"many segments", func(d *draft) { d.head.Phnum = 257 }, api.ErrCount},
		{"segments nowhere", func(d *draft) { d.head.Phoff = 0 }, api.ErrCount},
		{"segments", func(d *draft) { d.head.Phoff = d.size - segmentSize(d.Form) }, api.ErrRange},
	}
	eachSectionFaults = []fault{
		{"align 0", func(d *draft) { d.sections[0].Align = 3 }, api.ErrAlign},
		{"align 1", func(d *draft) { d.sections[1].Align = 5 }, api.ErrAlign},
		{"bytes 1", func(d *draft) { d.sections[1].Size = 1 << 20 }, api.ErrRange},
		{"align 2", func(d *draft) { d.sections[2].Align = 6 }, api.ErrAlign},
		{"bytes 2", func(d *draft) { d.sections[2].Offset = 1 << 20 }, api.ErrRange},
		{"align 3", func(d *draft) { d.sections[3].Align = 7 }, api.ErrAlign},
	}
	eachSegmentFaults = []fault{
		{"bytes of segment 0", func(d *draft) { d.segments[0].FileSize = 1 << 20 }, api.ErrRange},
		{"bytes of segment 1", func(d *draft) { d.segments[1].Offset = 1 << 20 }, api.ErrRange},
	}
)

func concat(l ...[]fault) []fault {
	var out []fault
	for _, x := range l {
		out = append(out, x...)
	}
	return out
}

// P11.1: of any two faults, that which the chapter has first counts.
func TestParseReturnsTheFirstError(t *testing.T) {
	kinds := []struct {
		draft  func(class.Form) *draft
		faults []fault
	}{
		{whole, concat(firstFaults, sectionsFaults, segmentsFaults, eachSectionFaults, eachSegmentFaults)},
		{segmentsOnly, concat(firstFaults, noSectionsFaults, segmentsFaults, eachSegmentFaults)},
	}
	for _, f := range forms {
		for _, kind := range kinds {
			for k, second := range kind.faults {
				for _, first := range kind.faults[:k+1] {
					d := kind.draft(f)
					second.apply(d)
					first.apply(d)
					if got, e := Parse(d.bytes(t)); e != first.want || !equal(got, File{}) {
						t.Errorf("%v, %s and %s: %v, want %v", f, first.name, second.name, e, first.want)
					}
				}
			}
		}
	}
}

// P11.1: an incomplete header counts behind the ident.
func TestParseOfAnIncompleteHeader(t *testing.T) {
	for _, f := range forms {
		d := whole(f)
		d.head.Version, d.head.Ehsize = 0, 0
		d.size = headSize(f) - 1
		d.bad(t, api.ErrShort)
		d.patches = []patch{{4, 0}}
		d.bad(t, api.ErrClass)
	}
}

// P1, P11.1, P11.2: whatever the bytes are, Parse ends, and what it returns has
// all that it tells of within the file.
func TestParseOfAnyBytes(t *testing.T) {
	random := rand.New(rand.NewSource(11))
	parsed := 0
	for _, f := range forms {
		for _, s := range []string{whole(f).bytes(t), segmentsOnly(f).bytes(t)} {
			for range 4000 {
				b := []byte(s)
				for range 1 + random.Intn(3) {
					b[random.Intn(len(b))] = byte(random.Intn(256) >> random.Intn(9))
				}
				file, e := Parse(string(b))
				if e != api.OK {
					if !equal(file, File{}) {
						t.Fatalf("beside %v: %+v", e, file)
					}
					continue
				}
				parsed++
				tryBytes(t, file, string(b))
			}
		}
	}
	if parsed == 0 {
		t.Error("no bytes were a file")
	}
}

func tryBytes(t *testing.T, f File, s string) {
	t.Helper()
	for _, x := range f.Spans() {
		if !x.In(uint64(len(s))) {
			t.Fatalf("%+v: span %v beyond the file", f, x)
		}
	}
	for i, x := range f.Sections {
		want := x.Size
		if !HasData(x) {
			want = 0
		}
		if got := f.Data(s, i); uint64(len(got)) != want {
			t.Fatalf("%+v: section %d has %d bytes", f, i, len(got))
		}
	}
	for i, x := range f.Segments {
		if got := f.Image(s, i); uint64(len(got)) != x.FileSize {
			t.Fatalf("%+v: segment %d has %d bytes", f, i, len(got))
		}
	}
}
