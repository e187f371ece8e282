package same

import (
	"fmt"
	"slices"
	"testing"

	"graver/class"
	"graver/model"
	"graver/order"
	"graver/relrec"
	"graver/shdr"
)

var forms = []class.Form{
	{},
	{Wide: true},
	{Order: order.Order{Big: true}},
	{Order: order.Order{Big: true}, Wide: true},
}

// full is a model each part of which has something of everything, which no
// valid one has.
func full(f class.Form) model.Model {
	section := func(name string) model.Section {
		return model.Section{
			Name: name, Type: 1, Flags: 2, Addr: 3, Link: 4, Info: 5, Align: 6, EntSize: 7, Size: 8, Data: "data\x00",
			Syms: []model.Symbol{
				{},
				{Name: "one", Info: 1, Other: 2, Value: 3, Size: 4, Sect: 5},
				{Name: "two", Info: 1, Other: 2, Value: 3, Size: 4, Sect: 5, Special: true},
			},
			Relocs:  []relrec.Reloc{{Offset: 1, Sym: 2, Type: 3, Addend: 4}, {}},
			Members: []uint64{0, 1, 1 << 63},
		}
	}
	return model.Model{
		Ident: class.Ident{Form: f, ABI: 1, Version: 2, Pad: "padding"},
		Type:  1, Machine: 2, Entry: 3, Flags: 4, Names: 5,
		Sections: []model.Section{section(""), section("a"), section("a")},
		Segments: []model.Segment{
			{Type: 1, Flags: 2, VAddr: 3, PAddr: 4, MemSize: 5, Align: 6, Data: "data"},
			{Type: 1, Flags: 2, VAddr: 3, PAddr: 4, MemSize: 5, Align: 6, Data: "data"},
		},
	}
}

// change of full, and what Diff tells of it.
type change struct {
	want string
	do   func(m *model.Model)
}

// list of changes in the order in which Diff tells of them, those of one word in
// any order. None undoes another one.
type list []change

func (l *list) add(want string, do func(m *model.Model)) {
	*l = append(*l, change{want, do})
}

// numbers adds changes of single numbers.
func (l *list) numbers(want string, get func(m *model.Model) []*uint64) {
	m := full(class.Form{})
	for k := range get(&m) {
		l.add(want, func(m *model.Model) { *get(m)[k] ^= 1 << 63 })
	}
}

func (l *list) ofModel() {
	l.add("ident", func(m *model.Model) { m.Big = !m.Big })
	l.add("ident", func(m *model.Model) { m.Wide = !m.Wide })
	l.add("ident", func(m *model.Model) { m.ABI++ })
	l.add("ident", func(m *model.Model) { m.Ident.Version++ })
	l.numbers("header", func(m *model.Model) []*uint64 {
		return []*uint64{&m.Type, &m.Machine, &m.Entry, &m.Flags, &m.Names}
	})
	l.add("sections", func(m *model.Model) { m.Sections = append(m.Sections, model.Section{}) })
}

func (l *list) ofSection(i int) {
	word := func(what string) string { return fmt.Sprintf("section %d %s", i, what) }
	add := func(what string, do func(x *model.Section)) {
		l.add(word(what), func(m *model.Model) { do(&m.Sections[i]) })
	}
	add("name", func(x *model.Section) { x.Name += "\x00" })
	l.numbers(word("header"), func(m *model.Model) []*uint64 {
		x := &m.Sections[i]
		return []*uint64{&x.Type, &x.Flags, &x.Addr, &x.Link, &x.Info, &x.Align, &x.EntSize, &x.Size}
	})
	add("data", func(x *model.Section) { x.Data += "\x00" })
	add("data", func(x *model.Section) { x.Data = "D" + x.Data[1:] })
	for k := range 3 {
		add("symbols", func(x *model.Section) { x.Syms[k].Name += "\x00" })
		add("symbols", func(x *model.Section) { x.Syms[k].Special = !x.Syms[k].Special })
		l.numbers(word("symbols"), func(m *model.Model) []*uint64 {
			y := &m.Sections[i].Syms[k]
			return []*uint64{&y.Info, &y.Other, &y.Value, &y.Size, &y.Sect}
		})
	}
	add("symbols", func(x *model.Section) { x.Syms = append(x.Syms, model.Symbol{}) })
	for k := range 2 {
		l.numbers(word("relocations"), func(m *model.Model) []*uint64 {
			y := &m.Sections[i].Relocs[k]
			return []*uint64{&y.Offset, &y.Sym, &y.Type, &y.Addend}
		})
	}
	add("relocations", func(x *model.Section) { x.Relocs = append(x.Relocs, relrec.Reloc{}) })
	l.numbers(word("members"), func(m *model.Model) []*uint64 {
		y := m.Sections[i].Members
		return []*uint64{&y[0], &y[1], &y[2]}
	})
	add("members", func(x *model.Section) { x.Members = append(x.Members, 0) })
}

func (l *list) ofSegments() {
	l.add("segments", func(m *model.Model) { m.Segments = append(m.Segments, model.Segment{}) })
	for i := range 2 {
		word := fmt.Sprintf("segment %d", i)
		l.numbers(word, func(m *model.Model) []*uint64 {
			x := &m.Segments[i]
			return []*uint64{&x.Type, &x.Flags, &x.VAddr, &x.PAddr, &x.MemSize, &x.Align}
		})
		l.add(word, func(m *model.Model) { m.Segments[i].Data += "\x00" })
		l.add(word, func(m *model.Model) { m.Segments[i].Data = "D" + m.Segments[i].Data[1:] })
	}
}

func changes() []change {
	l := &list{}
	l.ofModel()
	for i := range 3 {
		l.ofSection(i)
	}
	l.ofSegments()
	return *l
}

// differ holds that two models differ in this, whichever is asked about first.
func differ(t *testing.T, a, b model.Model, want string) {
	t.Helper()
	if got := Diff(a, b); got != want {
		t.Errorf("Diff = %q, want %q", got, want)
	}
	if got := Diff(b, a); got != want {
		t.Errorf("Diff the other way = %q, want %q", got, want)
	}
	if same := want == ""; Models(a, b) != same || Models(b, a) != same {
		t.Errorf("Models = %v, %v where Diff is %q", Models(a, b), Models(b, a), want)
	}
}

// P17.1, P17.2
func TestEachChangeIsTold(t *testing.T) {
	for _, f := range forms {
		differ(t, full(f), full(f), "")
		for _, x := range changes() {
			m := full(f)
			x.do(&m)
			differ(t, full(f), m, x.want)
			differ(t, m, m, "")
		}
	}
}

// P17.2: of two changes the one that comes first.
func TestTheFirstChangeIsTold(t *testing.T) {
	l := changes()
	for _, f := range forms {
		for i, x := range l {
			for _, y := range l[i+1:] {
				m := full(f)
				y.do(&m)
				x.do(&m)
				if got := Diff(full(f), m); got != x.want {
					t.Errorf("Diff of changes %q and %q = %q", x.want, y.want, got)
				}
			}
		}
	}
}

// P17.2: lists of which one is the beginning of the other.
func TestDiffOfShorterLists(t *testing.T) {
	for want, cut := range map[string]func(m *model.Model){
		"sections":              func(m *model.Model) { m.Sections = nil },
		"section 1 symbols":     func(m *model.Model) { m.Sections[1].Syms = m.Sections[1].Syms[:2] },
		"section 1 relocations": func(m *model.Model) { m.Sections[1].Relocs = nil },
		"section 2 members":     func(m *model.Model) { m.Sections[2].Members = m.Sections[2].Members[:1] },
		"section 2 data":        func(m *model.Model) { m.Sections[2].Data = "" },
		"segments":              func(m *model.Model) { m.Segments = nil },
		"segment 1":             func(m *model.Model) { m.Segments[1].Data = "" },
	} {
		m := full(class.Form{})
		cut(&m)
		differ(t, full(class.Form{}), m, want)
	}
}

// P17.2: numbers of more than one digit.
func TestDiffOfManyParts(t *testing.T) {
	for _, n := range []int{9, 10, 99, 100, 4095} {
		a := model.Model{Sections: make([]model.Section, n+1), Segments: make([]model.Segment, n+1)}
		b := a.Copy()
		b.Segments[n].Align = 1
		differ(t, a, b, fmt.Sprintf("segment %d", n))
		b.Sections[n].Name = "name"
		differ(t, a, b, fmt.Sprintf("section %d name", n))
	}
}

// P17.1: what does not matter.
func TestPadsAndEmptyListsAreTheSame(t *testing.T) {
	for _, f := range forms {
		m := full(f)
		m.Pad = ""
		differ(t, full(f), m, "")

		m = model.Model{Ident: class.Ident{Form: f, Pad: "x"}, Sections: []model.Section{}, Segments: []model.Segment{}}
		differ(t, model.Model{Ident: class.Ident{Form: f}}, m, "")

		a := model.Section{Name: "x", Syms: []model.Symbol{}, Relocs: []relrec.Reloc{}, Members: []uint64{}}
		b := model.Section{Name: "x"}
		if !Sections(a, b) || !Sections(b, a) {
			t.Error("empty lists of sections differ")
		}
	}
}

// P17.1: sections are the same or not, whatever models they are in.
func TestSections(t *testing.T) {
	l := list{}
	l.ofSection(1)
	x := full(class.Form{}).Sections[1]
	if !Sections(x, full(class.Form{}).Sections[2]) {
		t.Error("two sections of the same fields are not the same")
	}
	for _, c := range l {
		m := full(class.Form{})
		c.do(&m)
		if y := m.Sections[1]; Sections(x, y) || Sections(y, x) || !Sections(y, y) {
			t.Errorf("Sections of %s", c.want)
		}
	}
	if !Sections(model.Section{}, model.Section{}) {
		t.Error("the zero sections are not the same")
	}
}

// P17.3
func TestShared(t *testing.T) {
	m := func(names ...string) model.Model {
		var m model.Model
		for _, s := range names {
			m.Sections = append(m.Sections, model.Section{Name: s, Type: shdr.ProgBits})
		}
		return m
	}
	for _, c := range []struct {
		a, b model.Model
		want []int
	}{
		{m(), m(), nil},
		{m("a"), m(), nil},
		{m(""), m(""), []int{0}},
		{m("", "a", "b", "c"), m("", "a", "b", "c"), []int{0, 1, 2, 3}},
		{m("", "a", "b", "c"), m("", "x", "b"), []int{0, 2}},
		{m("", "a", "b"), m("x", "b", "a", "a"), nil},
		{m("x", "a", "b"), m("y", "a", "x", "b"), []int{1}},
	} {
		if got := [2][]int{Shared(c.a, c.b), Shared(c.b, c.a)}; !slices.Equal(got[0], c.want) || !slices.Equal(got[1], c.want) {
			t.Errorf("Shared = %v, want %v", got, c.want)
		}
	}
	for _, x := range changes() {
		m := full(class.Form{})
		x.do(&m)
		want := []int{0, 1, 2}
		if i := 0; sectionOf(x.want, &i) {
			want = slices.Delete(want, i, i+1)
		}
		if got := Shared(full(class.Form{}), m); !slices.Equal(got, want) {
			t.Errorf("Shared after a change of %s = %v", x.want, got)
		}
	}
}

// sectionOf reports whether Diff tells of one section, and of which one.
func sectionOf(diff string, i *int) bool {
	n, _ := fmt.Sscanf(diff, "section %d", i)
	return n == 1
}

// P17.3
func TestNames(t *testing.T) {
	m := func(names ...string) model.Model {
		m := model.Model{Sections: make([]model.Section, len(names))}
		for i, s := range names {
			m.Sections[i].Name = s
		}
		return m
	}
	for _, c := range []struct{ a, b, onlyA, onlyB []string }{
		{},
		{a: []string{"x"}},
		{a: []string{"x"}, b: []string{"y"}},
		{a: []string{"", "a"}, onlyA: []string{"a"}},
		{[]string{"", "b", "c", "a"}, []string{"", "a", "d"}, []string{"b", "c"}, []string{"d"}},
		{[]string{"", "c", "a", "c", "b", "a", "x"}, []string{"", "x", "x"}, []string{"a", "b", "c"}, nil},
		{[]string{"", "a"}, []string{"a", "b"}, []string{"a"}, []string{"b"}},
		{[]string{"", "a", ""}, []string{"", "a"}, []string{""}, nil},
		{[]string{"x", "", "ab"}, []string{"x", "", "b"}, []string{"ab"}, []string{"b"}},
		{[]string{"", "a\x00", "a", "\xff", "é", "B", "aa"}, []string{""}, []string{"B", "a", "a\x00", "aa", "é", "\xff"}, nil},
	} {
		a, b := m(c.a...), m(c.b...)
		x, y := Names(a, b)
		if !slices.Equal(x, c.onlyA) || !slices.Equal(y, c.onlyB) {
			t.Errorf("Names of %q and %q = %q, %q", c.a, c.b, x, y)
		}
		if y, x := Names(b, a); !slices.Equal(x, c.onlyA) || !slices.Equal(y, c.onlyB) {
			t.Errorf("Names of %q and %q = %q, %q", c.b, c.a, y, x)
		}
		if Diff(a, m(c.a...)) != "" || Diff(b, m(c.b...)) != "" {
			t.Errorf("Names changed %q or %q", c.a, c.b)
		}
	}
}
