package check

import (
	"math/rand"
	"testing"

	"graver/api"
	"graver/ehdr"
	"graver/model"
	"graver/shdr"
	"graver/strtab"
	"graver/symrec"
)

// writer of files for the tests, of valid models: what does not fit into its
// field is cut off.
type writer struct {
	model.Model
	tables []bool
	names  string
	at     map[string]uint64
}

func (w *writer) record(sizes []int, l ...uint64) string {
	full, _ := w.Sizes(sizes...)
	return w.Fields(full, l...)
}

// file returns a file of a model: all tables of names are the same, and the
// symbols that are at a section and have a section of indices have their
// numbers there.
func file(t *testing.T, m model.Model) string {
	w := &writer{Model: m, tables: m.Tables(), at: map[string]uint64{}}
	var l []string
	for _, x := range m.Sections {
		l = append(l, x.Name)
		for _, y := range x.Syms {
			l = append(l, y.Name)
		}
	}
	var at []uint64
	w.names, at, _ = strtab.Build(l...)
	for k, name := range l {
		w.at[name] = at[k]
	}
	h := ehdr.Plain(m.Form)
	h.Type, h.Machine, h.Entry, h.Flags, h.Shstrndx = m.Type, m.Machine, m.Entry, m.Flags, m.Names
	body, table := "", ""
	for i, x := range m.Sections {
		s := w.body(i)
		size := max(uint64(len(s)), x.Size)
		table += w.record([]int{4, 4, 0, 0, 0, 0, 4, 4, 0, 0}, w.at[x.Name], x.Type, x.Flags, x.Addr,
			h.Ehsize+uint64(len(body)), size, x.Link, x.Info, x.Align, x.EntSize)
		body += s
	}
	h.Shoff, h.Shnum = h.Ehsize+uint64(len(body)), uint64(len(m.Sections))
	s, ok := ehdr.Put(m.Form, h)
	if !ok {
		t.Fatal("a number of the header does not fit")
	}
	return m.Ident.Bytes() + s + body + table
}

func (w *writer) body(i int) string {
	x := w.Sections[i]
	s := x.Data
	if w.tables[i] {
		s = w.names
	}
	_, far := w.Indices(i)
	for _, y := range x.Syms {
		shndx := y.Sect
		if far && !y.Special && y.Sect != 0 {
			shndx = symrec.XIndex
		}
		if w.Wide {
			s += w.record([]int{4, 1, 1, 2, 0, 0}, w.at[y.Name], y.Info, y.Other, shndx, y.Value, y.Size)
		} else {
			s += w.record([]int{4, 0, 0, 1, 1, 2}, w.at[y.Name], y.Value, y.Size, y.Info, y.Other, shndx)
		}
	}
	for _, y := range x.Relocs {
		info := y.Sym<<8 | y.Type&0xff
		if w.Wide {
			info = y.Sym<<32 | y.Type&0xffffffff
		}
		sizes := make([]int, map[uint64]int{shdr.Rel: 2, shdr.Rela: 3}[x.Type])
		s += w.record(sizes, y.Offset, info, y.Addend)
	}
	for _, n := range x.Members {
		s += w.Put(n, 4)
	}
	if x.Type == shdr.Indices {
		for _, y := range w.Sections[x.Link].Syms {
			n := y.Sect
			if y.Special {
				n = 0
			}
			s += w.Put(n, 4)
		}
	}
	return s
}

// isValid holds that a file that is parsed has a valid model, and reports
// whether it is parsed.
func isValid(t *testing.T, s, what string) bool {
	t.Helper()
	m, e := model.Parse(s)
	if e != api.OK {
		return false
	}
	if e := Model(m); e != api.OK {
		t.Errorf("%s: Model = %v of %+v", what, e, m)
	}
	if l := Faults(m); len(l) != 0 {
		t.Errorf("%s: Faults = %v of %+v", what, l, m)
	}
	if c := m.Copy(); Model(c) != api.OK {
		t.Errorf("%s: the copy is not valid", what)
	}
	return true
}

// P14.3: whatever one byte is.
func TestFilesAreValid(t *testing.T) {
	for _, f := range forms {
		s := file(t, valid(f))
		if !isValid(t, s, "file") {
			_, e := model.Parse(s)
			t.Fatalf("%v: the file is not parsed: %v", f, e)
		}
		parsed := 0
		for i := range len(s) {
			for _, c := range []byte{0, 1, 2, 3, 4, 8, 9, 11, 17, 18, 0x20, 0x7f, 0x80, 0xfe, 0xff, s[i] + 1, s[i] - 1} {
				if isValid(t, s[:i]+string([]byte{c})+s[i+1:], "a byte") {
					parsed++
				}
			}
		}
		if parsed < len(s) {
			t.Errorf("%v: only %d changed files are parsed", f, parsed)
		}
	}
}

// P14.3: whatever some bytes are.
func TestChangedFilesAreValid(t *testing.T) {
	r := rand.New(rand.NewSource(7))
	for _, f := range forms {
		s := file(t, valid(f))
		parsed := 0
		for range 20000 {
			b := []byte(s)
			for range 1 + r.Intn(4) {
				b[r.Intn(len(b))] = byte(r.Intn(20))
			}
			if isValid(t, string(b), "bytes") {
				parsed++
			}
		}
		if parsed < 1000 {
			t.Errorf("%v: only %d changed files are parsed", f, parsed)
		}
	}
}

// P14.3: a name at the offset 0 of a table that is no right one.
func TestFirstSymbolHasNoName(t *testing.T) {
	for _, f := range forms {
		m := valid(f)
		for i := range m.Sections {
			m.Sections[i].Name = ""
		}
		m.Names = 0
		s := file(t, m)
		i := len(m.Ident.Bytes()) + int(ehdr.Plain(f).Ehsize) - 16
		if s[i] != 0 || s[i+1] == 0 {
			t.Fatalf("%v: no table of names at %d", f, i)
		}
		if isValid(t, s[:i]+"x"+s[i+1:], "x") {
			t.Errorf("%v: a first symbol with a name is parsed", f)
		}
	}
}
