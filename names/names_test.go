package names

import (
	"math"
	"slices"
	"strings"
	"testing"

	"graver/api"
	"graver/class"
	"graver/ehdr"
	"graver/order"
	"graver/raw"
	"graver/shdr"
	"graver/strtab"
)

var forms = []class.Form{
	{},
	{Wide: true},
	{Order: order.Order{Big: true}},
	{Order: order.Order{Big: true}, Wide: true},
}

// table of names of most tests: 1 is .names, 8 is .text, 0, 7, 13 and 14 are empty.
const table = "\x00.names\x00.text\x00\x00"

// file has body behind its header, in which the Offsets of the sections count,
// and their table of names is the one with the index names.
func file(t *testing.T, f class.Form, body string, names uint64, l ...shdr.Section) (raw.File, string) {
	t.Helper()
	h := ehdr.Plain(f)
	begin := h.Ehsize
	h.Shoff, h.Shnum, h.Shstrndx = begin+uint64(len(body)), uint64(len(l)), names
	s, ok := ehdr.Put(f, h)
	s = class.Ident{Form: f}.Bytes() + s + body
	for i, x := range l {
		if i > 0 {
			x.Offset += begin
		}
		part, fits := shdr.Put(f, x)
		s += part
		ok = ok && fits
	}
	out, e := raw.Parse(s)
	if !ok || e != api.OK {
		t.Fatal(ok, e)
	}
	return out, s
}

// P12.1
func TestTable(t *testing.T) {
	for _, form := range forms {
		f, s := file(t, form, table+"more", 0,
			shdr.Section{},
			shdr.Section{Type: shdr.StrTab, Size: 15},
			shdr.Section{Type: shdr.ProgBits, Size: 15},
			shdr.Section{Type: shdr.StrTab, Offset: 15, Size: 3},
			shdr.Section{Type: shdr.StrTab},
			shdr.Section{Type: shdr.SymTab, Size: 15},
			shdr.Section{Type: shdr.NoBits, Size: 15},
			shdr.Section{Type: 1<<32 - 1, Size: 15},
		)
		for i, want := range []string{1: table, 3: "mor", 4: ""} {
			e := api.OK
			if i != 1 && i != 3 && i != 4 {
				e = api.ErrLink
			}
			if got, err := Table(f, s, uint64(i)); got != want || err != e {
				t.Errorf("%v: Table(%d) = %q, %v, want %q, %v", form, i, got, err, want, e)
			}
		}
		for _, i := range []uint64{5, 6, 7, 8, 9, 0xffff, 1 << 31, 1<<32 + 1, 1 << 63, 1<<63 + 1, math.MaxUint64} {
			if got, e := Table(f, s, i); got != "" || e != api.ErrLink {
				t.Errorf("%v: Table(%d) = %q, %v", form, i, got, e)
			}
		}
	}
	if got, e := Table(raw.File{}, "abc", 0); got != "" || e != api.ErrLink {
		t.Errorf("Table of no file = %q, %v", got, e)
	}
}

// P12.1
func TestAll(t *testing.T) {
	cases := []struct {
		table string
		at    []uint64
		want  []string
		e     api.Errno
	}{
		{table, nil, nil, api.OK},
		{"", nil, nil, api.OK},
		{"abc", nil, nil, api.OK},
		{table, []uint64{0}, []string{""}, api.OK},
		{table, []uint64{8, 1, 1, 13, 3, 7, 12}, []string{".text", ".names", ".names", "", "ames", "", "t"}, api.OK},
		{table, []uint64{15}, nil, api.ErrName},
		{table, []uint64{1, 8, 15, 1}, nil, api.ErrName},
		{table, []uint64{15, 1}, nil, api.ErrName},
		{table, []uint64{1, math.MaxUint64}, nil, api.ErrName},
		{table, []uint64{1 << 63}, nil, api.ErrName},
		{table, []uint64{1<<32 + 1}, nil, api.ErrName},
		{"", []uint64{0}, nil, api.ErrName},
		{"\x00", []uint64{0, 0}, []string{"", ""}, api.OK},
		{"\x00", []uint64{1}, nil, api.ErrName},

		// Texts are asked for, whether or not the string is a table.
		{"ab\x00cd", []uint64{0, 1, 2}, []string{"ab", "b", ""}, api.OK},
		{"ab\x00cd", []uint64{0, 3}, nil, api.ErrName},
	}
	for _, c := range cases {
		if got, e := All(c.table, c.at...); !slices.Equal(got, c.want) || e != c.e {
			t.Errorf("All(%q, %d) = %q, %v, want %q, %v", c.table, c.at, got, e, c.want, c.e)
		}
	}
}

// P12.2: names at offsets, wherever the table is among the sections.
func TestSections(t *testing.T) {
	for _, form := range forms {
		for _, c := range []struct {
			table string
			at    [3]uint64
			want  []string
			e     api.Errno
		}{
			{table, [3]uint64{0, 1, 8}, []string{"", ".names", ".text"}, api.OK},
			{table, [3]uint64{0, 8, 8}, []string{"", ".text", ".text"}, api.OK},
			{table, [3]uint64{13, 7, 10}, []string{"", "", "ext"}, api.OK},
			{table, [3]uint64{3, 0, 13}, []string{"ames", "", ""}, api.OK},
			{table, [3]uint64{0, 1, 15}, nil, api.ErrName},
			{table, [3]uint64{0, 15, 1}, nil, api.ErrName},
			{table, [3]uint64{15, 0, 0}, nil, api.ErrName},
			{table, [3]uint64{0, 1<<32 - 1, 0}, nil, api.ErrName},
			{"", [3]uint64{}, nil, api.ErrName},
			{"\x00", [3]uint64{}, []string{"", "", ""}, api.OK},
			{"\x00", [3]uint64{0, 0, 1}, nil, api.ErrName},
			{"a\x00b", [3]uint64{1, 0, 0}, []string{"", "a", "a"}, api.OK},
			{"a\x00b", [3]uint64{1, 0, 2}, nil, api.ErrName},
		} {
			size := uint64(len(c.table))
			// A byte 0 behind the table is none of its.
			f, s := file(t, form, "x"+c.table+"\x00", 1,
				shdr.Section{Name: c.at[0]},
				shdr.Section{Name: c.at[1], Type: shdr.StrTab, Offset: 1, Size: size},
				shdr.Section{Name: c.at[2], Type: shdr.NoBits, Size: 1 << 30},
			)
			if got, e := Sections(f, s); !slices.Equal(got, c.want) || e != c.e {
				t.Errorf("%v: Sections of %q at %d = %q, %v, want %q, %v", form, c.table, c.at, got, e, c.want, c.e)
			}
		}
	}
}

// P12.2: without a table of names.
func TestSectionsWithoutNames(t *testing.T) {
	for _, form := range forms {
		l := make([]shdr.Section, 4)
		l[2] = shdr.Section{Type: shdr.StrTab, Size: uint64(len(table))}
		f, s := file(t, form, table, 0, l...)
		if got, e := Sections(f, s); !slices.Equal(got, make([]string, 4)) || e != api.OK {
			t.Errorf("%v: Sections = %q, %v", form, got, e)
		}
		for i := range l {
			for _, at := range []uint64{1, 2, 1<<32 - 1} {
				wrong := slices.Clone(l)
				wrong[i].Name = at
				f, s := file(t, form, table, 0, wrong...)
				if got, e := Sections(f, s); len(got) != 0 || e != api.ErrName {
					t.Errorf("%v: Sections with Name %d at %d = %q, %v", form, at, i, got, e)
				}
			}
		}
	}
}

// P12.2: a file without sections has no names.
func TestSectionsOfNone(t *testing.T) {
	for _, form := range forms {
		head, _ := ehdr.Put(form, ehdr.Plain(form))
		s := class.Ident{Form: form}.Bytes() + head
		f, e := raw.Parse(s)
		if e != api.OK {
			t.Fatal(e)
		}
		if got, e := Sections(f, s); len(got) != 0 || e != api.OK {
			t.Errorf("%v: Sections = %q, %v", form, got, e)
		}
	}
}

// P12.2: a table of names that is none, with any names.
func TestSectionsOfAnotherType(t *testing.T) {
	for _, form := range forms {
		for _, kind := range []uint64{shdr.Null, shdr.ProgBits, shdr.SymTab, shdr.NoBits, shdr.DynSym, 1<<32 - 1} {
			for _, at := range []uint64{0, 1, 99} {
				f, s := file(t, form, table, 1, shdr.Section{}, shdr.Section{Name: at, Type: kind, Size: 15})
				if got, e := Sections(f, s); len(got) != 0 || e != api.ErrName {
					t.Errorf("%v: Sections with names of type %d = %q, %v", form, kind, got, e)
				}
			}
		}
		// The index of a section that there is not.
		f, s := file(t, form, table, 1, shdr.Section{}, shdr.Section{Name: 1, Type: shdr.StrTab, Size: 15})
		for _, names := range []uint64{2, 1 << 32, math.MaxUint64} {
			f.Names = names
			if got, e := Sections(f, s); len(got) != 0 || e != api.ErrName {
				t.Errorf("%v: Sections with names %d = %q, %v", form, names, got, e)
			}
		}
	}
}

// P12.2: the index of the table of names is that of layer 11, which may stand in
// the first section header.
func TestSectionsOfNamesElsewhere(t *testing.T) {
	built, at, e := strtab.Build("", "a.b", ".b", "b")
	if e != api.OK {
		t.Fatal(e)
	}
	for _, form := range forms {
		f, s := file(t, form, built, 0xffff,
			shdr.Section{Name: at[0], Link: 3},
			shdr.Section{Name: at[1], Type: shdr.StrTab},
			shdr.Section{Name: at[2], Type: shdr.ProgBits},
			shdr.Section{Name: at[3], Type: shdr.StrTab, Size: uint64(len(built))},
		)
		if got, e := Sections(f, s); !slices.Equal(got, []string{"", "a.b", ".b", "b"}) || e != api.OK {
			t.Errorf("%v: Sections = %q, %v", form, got, e)
		}
	}
}

// P12.2
func TestFind(t *testing.T) {
	cases := []struct {
		names []string
		name  string
		want  int
		ok    bool
	}{
		{[]string{"a", "b", "b"}, "b", 1, true},
		{[]string{"a", "b", "b"}, "a", 0, true},
		{[]string{"a", "b", "b"}, "c", 0, false},
		{[]string{"a", "b", "b"}, "", 0, false},
		{[]string{"a", "", "b", ""}, "", 1, true},
		{[]string{"", "a"}, "", 0, true},
		{[]string{"ab", "a\x00", "A", "a"}, "a", 3, true},
		{[]string{"a", "b", "c"}, "c", 2, true},
		{nil, "a", 0, false},
		{nil, "", 0, false},
	}
	for _, c := range cases {
		if got, ok := Find(c.names, c.name); got != c.want || ok != c.ok {
			t.Errorf("Find(%q, %q) = %d, %v, want %d, %v", c.names, c.name, got, ok, c.want, c.ok)
		}
	}
}

// P12.3
func TestTwice(t *testing.T) {
	cases := []struct{ names, want []string }{
		{nil, nil},
		{[]string{"a"}, nil},
		{[]string{"a", "b", "c"}, nil},
		{[]string{"a", "a"}, []string{"a"}},
		{[]string{"a", "b", "a", "a"}, []string{"a"}},
		{[]string{"", "", ""}, nil},
		{[]string{"", "b", "", "b"}, []string{"b"}},
		{[]string{"c", "b", "a", "a", "b", "c"}, []string{"a", "b", "c"}},
		{[]string{"b", "a", "B", "ab", "b", "\xff", "ab", "a", "\xff", "B", "é", "é", "\x00", "\x00"}, []string{"\x00", "B", "a", "ab", "b", "é", "\xff"}},
	}
	for _, c := range cases {
		for range 20 {
			if got := Twice(c.names); !slices.Equal(got, c.want) {
				t.Errorf("Twice(%q) = %q, want %q", c.names, got, c.want)
			}
		}
	}
}

// P12.3
func TestFresh(t *testing.T) {
	cases := []struct {
		names []string
		name  string
		want  string
	}{
		{nil, "a", "a"},
		{nil, "", ""},
		{[]string{"b", "a.1"}, "a", "a"},
		{[]string{"a"}, "a", "a.1"},
		{[]string{"a", "a"}, "a", "a.1"},
		{[]string{"a", "a.1", "a.2"}, "a", "a.3"},
		{[]string{"a.3", "a.1", "a"}, "a", "a.2"},
		{[]string{"a", "a.01", "a.1 ", "a.0"}, "a", "a.1"},
		{[]string{"a", "a.1"}, "a.1", "a.1.1"},
		{[]string{""}, "", ".1"},
		{[]string{"", ".1"}, "", ".2"},
		{[]string{"a"}, "", ""},
		{[]string{"a.", "a"}, "a.", "a..1"},
		{[]string{"a", "a.1", "a.2", "a.3", "a.4", "a.5", "a.6", "a.7", "a.8", "a.9", "a.10"}, "a", "a.11"},
	}
	for _, c := range cases {
		if got := Fresh(c.names, c.name); got != c.want {
			t.Errorf("Fresh(%q, %q) = %q, want %q", c.names, c.name, got, c.want)
		}
	}
}

// P12.3, P1: names one after another, each of which is none of those before it.
func TestFreshAgainAndAgain(t *testing.T) {
	const n = 1000
	var l []string
	for range n {
		name := Fresh(l, "x")
		if slices.Contains(l, name) {
			t.Fatalf("%q is one of the names", name)
		}
		l = append(l, name)
	}
	if l[0] != "x" || l[1] != "x.1" || l[n-1] != "x.999" || len(Twice(l)) != 0 {
		t.Error(l[0], l[1], l[n-1])
	}
}

// Rules: arguments are not modified, including their spare capacity.
func TestArgumentsStay(t *testing.T) {
	l := []string{"c", "", "b", "c", "a", "a", "spare"}
	at := []uint64{8, 1, 0, 99}
	names, offsets := slices.Clone(l), slices.Clone(at)
	for range 3 {
		Twice(l[:5])
		Fresh(l[:5], "c")
		Find(l[:5], "a")
		All(table, at[:3]...)
	}
	if !slices.Equal(l, names) || !slices.Equal(at, offsets) {
		t.Error(l, at)
	}
}

// P1: long names in great numbers.
func TestSectionsOfManyLongNames(t *testing.T) {
	long := "\x00" + strings.Repeat("n", 100000) + "\x00"
	l := make([]shdr.Section, api.MaxSections)
	l[1] = shdr.Section{Type: shdr.StrTab, Size: uint64(len(long))}
	for i := range l {
		l[i].Name = uint64(1 + i)
	}
	f, s := file(t, class.Form{}, long, 1, l...)
	got, e := Sections(f, s)
	if e != api.OK || len(got) != len(l) {
		t.Fatal(len(got), e)
	}
	for i, name := range got {
		if len(name) != 100000-i {
			t.Fatalf("name %d has %d bytes", i, len(name))
		}
	}
}
