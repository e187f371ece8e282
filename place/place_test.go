package place

import (
	"math/rand"
	"slices"
	"strings"
	"testing"

	"graver/api"
	"graver/class"
	"graver/ehdr"
	"graver/model"
	"graver/phdr"
	"graver/raw"
	"graver/shdr"
)

// P15.1
func TestRead(t *testing.T) {
	for _, f := range forms {
		d := whole(t, f)
		s := d.bytes(t)
		m, p := read(t, s)
		if want, _ := model.Parse(s); !same(m, want) {
			t.Errorf("%v: Read = %+v, want %+v", f, m, want)
		}
		if want, _ := raw.Parse(s); !same(p.File, want) || p.Pad != "padding" || p.File.Names != shnames {
			t.Errorf("%v: the tables are %+v, want %+v", f, p.File, want)
		}
		if p.Size != len(s) {
			t.Errorf("%v: Size = %d, want %d", f, p.Size, len(s))
		}
		names, far, tables := make([][]uint64, sections), make([][]bool, sections), make([]string, sections)
		names[symtab] = []uint64{0, 1, 6, 9, 4, 11}
		far[symtab] = []bool{false, false, false, true, true, false}
		tables[shnames], tables[symnames] = sectionNames, symbolNames
		if !same(p.Names, names) || !same(p.Far, far) || !slices.Equal(p.Tables, tables) {
			t.Errorf("%v: Names, Far, Tables = %v, %v, %q", f, p.Names, p.Far, p.Tables)
		}
		if !slices.Equal(p.Rest, d.rest) {
			t.Errorf("%v: Rest = %v, want %v", f, p.Rest, d.rest)
		}
	}
}

// P15.1: two tables of symbols, one without indices, that share a table of
// names with the sections.
func TestReadTwoTables(t *testing.T) {
	for _, f := range forms {
		d := whole(t, f)
		x := d.heads[symtab]
		x.Link, x.Info = shnames, 1
		d.heads[other], d.bodies[other] = x, d.bodies[symtab][:x.EntSize]
		_, p := read(t, d.bytes(t))
		if !same(p.Names[other], []uint64{0}) || !same(p.Far[other], []bool{false}) || p.Tables[shnames] != sectionNames || p.Tables[other] != "" {
			t.Errorf("%v: Names, Far, Tables = %v, %v, %q", f, p.Names, p.Far, p.Tables)
		}
	}
}

// P15.1
func TestReadWhatIsNoFile(t *testing.T) {
	check := func(s string) {
		t.Helper()
		_, want := model.Parse(s)
		if m, p, e := Read(s); e != want || e == api.OK || !same(m, model.Model{}) || !same(p, Place{}) {
			t.Errorf("Read = %+v, %+v, %v, want %v", m, p, e, want)
		}
	}
	check("")
	check("\x7fELF")
	for _, f := range forms {
		s := whole(t, f).bytes(t)
		check(s[:len(s)/2])
		check("x" + s)
		check(s + strings.Repeat("x", api.MaxFile))
		d := whole(t, f)
		d.heads[symtab].Info = 0
		check(d.bytes(t))
	}
}

// P15.1, P15.3: the example of the chapter, and some bytes behind it.
func TestHeaderAlone(t *testing.T) {
	for _, f := range forms {
		d := &draft{Ident: class.Ident{Form: f, ABI: 7, Pad: "1234567"}, head: ehdr.Plain(f)}
		d.head.Type, d.head.Phentsize, d.head.Shentsize = 99, 5, 6
		for _, rest := range []string{"", "x", "\x00\x00"} {
			s := d.begin(t) + rest
			m, p := read(t, s)
			var want []Chunk
			if rest != "" {
				want = []Chunk{{At: len(s) - len(rest), Text: rest}}
			}
			if !slices.Equal(p.Rest, want) || p.Size != len(s) || p.Left() != len(rest) || p.Pad != "1234567" {
				t.Errorf("%v: Place = %+v, want the rest %+v", f, p, want)
			}
			if len(p.Names) != 0 || len(p.Far) != 0 || len(p.Tables) != 0 {
				t.Errorf("%v: Place = %+v", f, p)
			}
			if got, e := Write(m, p); got != s || e != api.OK {
				t.Errorf("%v: Write = %q, %v, want %q", f, got, e, s)
			}
		}
	}
}

// P15.3: of a file with all kinds of sections, however much of it is present.
func TestWholeIsWrittenAsItWas(t *testing.T) {
	for _, f := range forms {
		d := whole(t, f)
		isExact(t, d.bytes(t))
		d.head.Shoff, d.heads = 0, nil
		d.bodies, d.head.Shstrndx, d.head.Shnum = nil, 0, 0
		isExact(t, d.bytes(t))
		d = whole(t, f)
		d.segments, d.images = nil, nil
		isExact(t, d.bytes(t))
	}
}

// P15.3: numbers of sections and segments that the header does not have.
func TestNumbersElsewhere(t *testing.T) {
	for _, f := range forms {
		d := whole(t, f)
		d.heads[0].Size, d.heads[0].Link, d.heads[0].Info = sections, shnames, 3
		d.bytes(t)
		d.head.Shnum, d.head.Shstrndx, d.head.Phnum = 0, 0xffff, 0xffff
		s := d.begin(t) + d.out.String()[ehdr.Plain(f).Ehsize:]
		isExact(t, s)
		if m, p := read(t, s); m.Names != shnames || len(p.Sections) != sections || len(p.Segments) != 3 || !slices.Equal(p.Rest, d.rest) {
			t.Errorf("%v: Place = %+v", f, p)
		}
	}
}

// isExact holds that a file is written as it was, and that what its place tells
// of its rest is what its spans leave; it reports whether it is a file.
func isExact(t *testing.T, s string) bool {
	t.Helper()
	m, p, e := Read(s)
	if e != api.OK {
		return false
	}
	if got, e := Write(m, p); e != api.OK || got != s {
		t.Errorf("Write = %v, as it was: %v, of %q", e, got == s, s)
	}
	b := make([]byte, len(s))
	for _, x := range p.File.Spans() {
		copy(b[x.At:], strings.Repeat("x", int(x.Len)))
	}
	want, last := 0, -1
	for i := range b {
		if b[i] == 0 {
			want++
		}
	}
	for _, x := range p.Rest {
		if x.Text == "" || x.At <= last || s[x.At:x.At+len(x.Text)] != x.Text {
			t.Errorf("Rest = %+v", p.Rest)
		}
		last = x.At + len(x.Text)
		for _, c := range b[x.At:last] {
			if c != 0 {
				t.Errorf("Rest %+v has bytes that are in a span of %+v", p.Rest, p.File.Spans())
			}
		}
	}
	if p.Left() != want {
		t.Errorf("Left = %d, want %d", p.Left(), want)
	}
	return true
}

// P15.3: whatever one byte is.
func TestChangedByteIsWrittenAsItWas(t *testing.T) {
	for _, f := range forms {
		s := whole(t, f).bytes(t)
		n := 0
		for i := range len(s) {
			for _, c := range []byte{0, 1, 2, 8, 0x7f, 0x80, 0xff, s[i] + 1, s[i] - 1} {
				if isExact(t, s[:i]+string([]byte{c})+s[i+1:]) {
					n++
				}
			}
		}
		if n < len(s) {
			t.Errorf("%v: only %d changed files are parsed", f, n)
		}
	}
}

// P15.3: whatever some bytes are: parts are on one another then.
func TestChangedBytesAreWrittenAsTheyWere(t *testing.T) {
	r := rand.New(rand.NewSource(15))
	for _, f := range forms {
		d := whole(t, f)
		s := d.bytes(t)
		n := 0
		for range 4000 {
			b := []byte(s)
			for range 1 + r.Intn(4) {
				i := r.Intn(len(b))
				if r.Intn(2) == 0 { // in the tables there are the positions
					i = int(d.head.Phoff) + r.Intn(len(b)-int(d.head.Phoff))
				}
				b[i] = byte(r.Intn(64))
			}
			if isExact(t, string(b)) {
				n++
			}
		}
		if n < 400 {
			t.Errorf("%v: only %d changed files are parsed", f, n)
		}
	}
}

// P15.4
func TestLeftAndClean(t *testing.T) {
	for _, f := range forms {
		d := whole(t, f)
		s := d.bytes(t)
		m, p := read(t, s)
		n := 0
		want := []byte(s)
		copy(want[9:], make([]byte, 7))
		var rest []Chunk
		for _, x := range d.rest {
			zeros := make([]byte, len(x.Text))
			n += copy(want[x.At:], zeros)
			rest = append(rest, Chunk{At: x.At, Text: string(zeros)})
		}
		c := p.Clean()
		if p.Left() != n || c.Left() != n {
			t.Errorf("%v: Left = %d, of the clean place %d, want %d", f, p.Left(), c.Left(), n)
		}
		if got, e := Write(m, c); got != string(want) || e != api.OK {
			t.Errorf("%v: Write at the clean place = %q, %v, want %q", f, got, e, want)
		}
		if !slices.Equal(c.Rest, rest) || c.Pad != "" {
			t.Errorf("%v: Clean has %v and the pad %q", f, c.Rest, c.Pad)
		}
		c.Pad, c.Rest = p.Pad, p.Rest
		if !same(c, p) {
			t.Errorf("%v: Clean = %+v of %+v", f, c, p)
		}
		if again, _ := Write(m, p); again != s {
			t.Errorf("%v: Clean changes the place", f)
		}
	}
	var none Place
	if c := none.Clean(); none.Left() != 0 || !same(c, none) {
		t.Errorf("Left = %d, Clean = %+v of nothing", none.Left(), c)
	}
	odd := Place{Rest: []Chunk{{At: -3, Text: "abc"}, {At: 1 << 40, Text: ""}, {Text: "\x00d"}}, Names: [][]uint64{nil, {1}}}
	odd.Pad = "more than seven"
	want := []Chunk{{At: -3, Text: "\x00\x00\x00"}, {At: 1 << 40}, {Text: "\x00\x00"}}
	if c := odd.Clean(); odd.Left() != 5 || !slices.Equal(c.Rest, want) || c.Pad != "" || !same(c.Names, odd.Names) {
		t.Errorf("Left = %d, Clean = %+v", odd.Left(), c)
	}
}

// P15.4: whatever is changed in the clean place, the other one stays.
func TestCleanIsNew(t *testing.T) {
	m, p := read(t, whole(t, forms[1]).bytes(t))
	want, _ := Write(m, p)
	c := p.Clean()
	for i := range c.Sections {
		c.Sections[i] = shdr.Section{}
		c.Tables[i] = "x"
		for k := range c.Names[i] {
			c.Names[i][k], c.Far[i][k] = 99, !c.Far[i][k]
		}
		c.Names[i], c.Far[i] = nil, nil
	}
	for i := range c.Segments {
		c.Segments[i] = phdr.Segment{}
	}
	for i := range c.Rest {
		c.Rest[i] = Chunk{}
	}
	if got, e := Write(m, p); got != want || e != api.OK {
		t.Errorf("a change of the clean place changes the other one: %v", e)
	}
	l := append(p.Rest, Chunk{At: 99})
	p.Rest = l[:len(l)-1]
	c = p.Clean()
	if _ = append(c.Rest, Chunk{}); l[len(l)-1].At != 99 {
		t.Error("Clean has the spare room of the other place")
	}
}
