package dynrec

import (
	"encoding/binary"
	"math"
	"math/rand"
	"slices"
	"strings"
	"testing"

	"graver/api"
	"graver/class"
)

// P10.2
func TestNotesBytes(t *testing.T) {
	l := []Note{{Type: 0x01020304, Name: "GNU\x00", Desc: "abcde"}, {Name: "a"}, {}, {Type: math.MaxUint32, Desc: "\x00"}}
	little := "\x04\x00\x00\x00\x05\x00\x00\x00\x04\x03\x02\x01GNU\x00abcde\x00\x00\x00" +
		"\x01\x00\x00\x00\x00\x00\x00\x00\x00\x00\x00\x00a\x00\x00\x00" +
		"\x00\x00\x00\x00\x00\x00\x00\x00\x00\x00\x00\x00" +
		"\x00\x00\x00\x00\x01\x00\x00\x00\xff\xff\xff\xff\x00\x00\x00\x00"
	big := "\x00\x00\x00\x04\x00\x00\x00\x05\x01\x02\x03\x04GNU\x00abcde\x00\x00\x00" +
		"\x00\x00\x00\x01\x00\x00\x00\x00\x00\x00\x00\x00a\x00\x00\x00" +
		"\x00\x00\x00\x00\x00\x00\x00\x00\x00\x00\x00\x00" +
		"\x00\x00\x00\x00\x00\x00\x00\x01\xff\xff\xff\xff\x00\x00\x00\x00"
	for _, f := range forms {
		want := little
		if f.Big {
			want = big
		}
		if got, ok := PutNotes(f, l...); got != want || !ok {
			t.Errorf("PutNotes(%v) = %q, %v, want %q", f, got, ok, want)
		}
		if got, e := Notes(f, want); !slices.Equal(got, l) || e != api.OK {
			t.Errorf("Notes(%v) = %v, %v", f, got, e)
		}
	}
}

// P10.2
func TestNotesOfNone(t *testing.T) {
	for _, f := range forms {
		if got, ok := PutNotes(f); got != "" || !ok {
			t.Errorf("PutNotes(%v) = %q, %v", f, got, ok)
		}
		if got, e := Notes(f, ""); len(got) != 0 || e != api.OK {
			t.Errorf("Notes(%v) of no bytes = %v, %v", f, got, e)
		}
	}
}

// P10.2: names and descs of every length around the paddings. A cut that leaves
// whole notes is no fault, any other one is; so is each byte of padding that is
// not zero.
func TestNotesOfEveryLength(t *testing.T) {
	for _, f := range forms {
		for name := range 9 {
			for desc := range 9 {
				l := []Note{{7, strings.Repeat("n", name), strings.Repeat("d", desc)}, {8, "abc", "de"}}
				tryCuts(t, f, l)
				tryPadding(t, f, l[0])
			}
		}
	}
}

func tryCuts(t *testing.T, f class.Form, l []Note) {
	s, ok := PutNotes(f, l...)
	first, _ := PutNotes(f, l[0])
	if !ok || len(first)%4 != 0 || !strings.HasPrefix(s, first) {
		t.Fatalf("PutNotes(%v, %v) = %q, %v", f, l, s, ok)
	}
	for n := range len(s) + 1 {
		var want []Note
		e := api.ErrShort
		switch n {
		case 0:
			e = api.OK
		case len(first):
			want, e = l[:1], api.OK
		case len(s):
			want, e = l, api.OK
		}
		if got, err := Notes(f, s[:n]); !slices.Equal(got, want) || err != e {
			t.Errorf("Notes(%v, %q) = %v, %v, want %v, %v", f, s[:n], got, err, want, e)
		}
	}
}

// tryPadding: each byte of a note's padding has to be zero, and no other byte.
// That s ends within a note counts ahead of it.
func tryPadding(t *testing.T, f class.Form, x Note) {
	s, _ := PutNotes(f, x)
	name := 12 + len(x.Name)
	desc := (name+3)/4*4 + len(x.Desc)
	for n := 12; n < len(s); n++ {
		e := api.OK
		if n >= name && n < (name+3)/4*4 || n >= desc {
			e = api.ErrData
		}
		for _, c := range []byte{1, 0x80, 0xff} {
			b := []byte(s)
			b[n] = c
			bad := string(b)
			got, err := Notes(f, bad)
			if err != e || e != api.OK && len(got) != 0 {
				t.Errorf("Notes(%v, %q) = %v, %v, want %v", f, bad, got, err, e)
			}
			if got, err := Notes(f, s+bad+s); err != e || e != api.OK && len(got) != 0 {
				t.Errorf("Notes(%v, %q) = %v, %v, want %v", f, s+bad+s, got, err, e)
			}
			for _, short := range []string{bad + "\x00", bad + s[:len(s)-1], bad[:len(bad)-1], s + bad + s[:11]} {
				if got, err := Notes(f, short); len(got) != 0 || err != api.ErrShort {
					t.Errorf("Notes(%v, %q) = %v, %v, want ErrShort", f, short, got, err)
				}
			}
		}
	}
}

// P10.2: lengths beyond the bytes that there are, up to the greatest ones.
func TestNotesOfGreatLengths(t *testing.T) {
	lengths := []uint64{0, 1, 4, 12, 13, 16, 17, 1 << 20, 1 << 31, 1<<32 - 4, 1<<32 - 3, 1<<32 - 1}
	rest := strings.Repeat("\x00", 16)
	for _, f := range forms {
		for _, name := range lengths {
			for _, desc := range lengths {
				s := f.Put(name, 4) + f.Put(desc, 4) + f.Put(9, 4) + rest
				want := api.ErrShort
				// Twelve bytes that are left over are a note of zeros.
				if used := (name+3)/4*4 + (desc+3)/4*4; used == 16 || used == 4 {
					want = api.OK
				}
				if got, e := Notes(f, s); e != want || e != api.OK && len(got) != 0 {
					t.Errorf("Notes(%v) with lengths %d and %d = %v, %v, want %v", f, name, desc, got, e, want)
				}
			}
		}
	}
}

// P10.2
func TestPutNotesOfTypes(t *testing.T) {
	cases := []struct {
		kind uint64
		want bool
	}{
		{0, true}, {1, true}, {1 << 31, true}, {math.MaxUint32, true},
		{1 << 32, false}, {1<<32 + 1, false}, {1 << 63, false}, {math.MaxUint64, false},
	}
	for _, c := range cases {
		for _, f := range forms {
			for at := range 3 {
				l := slices.Insert([]Note{{1, "a", "b"}, {2, "c", "d"}}, at, Note{Type: c.kind, Name: "x"})
				s, ok := PutNotes(f, l...)
				if ok != c.want || !ok && s != "" {
					t.Errorf("PutNotes(%v, %v) = %q, %v", f, l, s, ok)
				}
				if !ok {
					continue
				}
				if got, e := Notes(f, s); !slices.Equal(got, l) || e != api.OK {
					t.Errorf("Notes(%v, %q) = %v, %v", f, s, got, e)
				}
			}
		}
	}
}

// P10.2: MaxFile bytes are not too many, with the paddings that count, too.
func TestPutNotesOfManyBytes(t *testing.T) {
	text := func(n int) string { return strings.Repeat("x", n) }
	var small []Note
	for range (api.MaxFile - 4) / 12 {
		small = append(small, Note{})
	}
	cases := []struct {
		l    []Note
		size int // 0 stands for too many
	}{
		{[]Note{{Name: text(api.MaxFile - 12)}}, api.MaxFile},
		{[]Note{{Name: text(api.MaxFile - 13)}}, api.MaxFile},
		{[]Note{{Name: text(api.MaxFile - 16)}}, api.MaxFile - 4},
		{[]Note{{Name: text(api.MaxFile - 11)}}, 0},
		{[]Note{{Desc: text(api.MaxFile - 12)}}, api.MaxFile},
		{[]Note{{Desc: text(api.MaxFile - 15)}}, api.MaxFile},
		{[]Note{{Desc: text(api.MaxFile - 11)}}, 0},
		{[]Note{{Name: "a", Desc: text(api.MaxFile - 16)}}, api.MaxFile},
		{[]Note{{Name: "a", Desc: text(api.MaxFile - 15)}}, 0},
		{[]Note{{Name: text(api.MaxFile - 16), Desc: "a"}}, api.MaxFile},
		{[]Note{{Name: text(api.MaxFile - 15), Desc: "a"}}, 0},
		{[]Note{{Name: text(api.MaxFile - 24)}, {}}, api.MaxFile},
		{[]Note{{Name: text(api.MaxFile - 23)}, {}}, 0},
		{[]Note{{}, {Name: text(api.MaxFile - 24)}}, api.MaxFile},
		{[]Note{{}, {Name: text(api.MaxFile - 23)}}, 0},
		{[]Note{{Name: text(api.MaxFile - 12)}, {}}, 0},
		{[]Note{{}, {Name: text(2 * api.MaxFile)}, {}}, 0},
		{[]Note{{Name: text(api.MaxFile), Desc: text(api.MaxFile)}}, 0},
		{small, api.MaxFile - 4},
		{append(slices.Clone(small), Note{}), 0},
		{append(slices.Clone(small[1:]), Note{Name: "abcd"}), api.MaxFile},
		{append(slices.Clone(small[1:]), Note{Name: "abcde"}), 0},
	}
	for k, c := range cases {
		for _, f := range forms {
			s, ok := PutNotes(f, c.l...)
			if len(s) != c.size || ok != (c.size > 0) {
				t.Errorf("case %d, %v: %d bytes, %v, want %d", k, f, len(s), ok, c.size)
			}
			if !ok {
				continue
			}
			if got, e := Notes(f, s); !slices.Equal(got, c.l) || e != api.OK {
				t.Errorf("case %d, %v: %d notes, %v", k, f, len(got), e)
			}
		}
	}
}

// P10.2: more than MaxFile bytes are read all the same.
func TestNotesOfManyBytes(t *testing.T) {
	s := strings.Repeat("\x00", 12*(api.MaxFile/6))
	for _, f := range forms {
		if got, e := Notes(f, s); len(got) != api.MaxFile/6 || e != api.OK {
			t.Errorf("Notes(%v) of %d bytes: %d, %v", f, len(s), len(got), e)
		}
	}
}

// P10.2: what is put is read as the same notes, and what is read is put as the
// same bytes, as a plain writer has them, too.
func TestNotesOfMany(t *testing.T) {
	random := rand.New(rand.NewSource(102))
	text := func() string {
		b := make([]byte, random.Intn(20))
		random.Read(b)
		return string(b)
	}
	for range 200 {
		for _, f := range forms {
			l := make([]Note, random.Intn(30))
			for k := range l {
				l[k] = Note{Type: random.Uint64() >> 32, Name: text(), Desc: text()}
			}
			given := slices.Clone(l)
			want := plainNotes(f, l)
			s, ok := PutNotes(f, l...)
			if s != want || !ok {
				t.Fatalf("PutNotes(%v, %v) = %q, %v, want %q", f, l, s, ok, want)
			}
			got, e := Notes(f, s)
			if !slices.Equal(got, given) || e != api.OK {
				t.Fatalf("Notes(%v, %q) = %v, %v", f, s, got, e)
			}
			if !slices.Equal(l, given) {
				t.Fatal("PutNotes changes its argument")
			}
		}
	}
}

func plainNotes(f class.Form, l []Note) string {
	var end binary.AppendByteOrder = binary.LittleEndian
	if f.Big {
		end = binary.BigEndian
	}
	var b []byte
	for _, x := range l {
		for _, n := range []int{len(x.Name), len(x.Desc), int(x.Type)} {
			b = end.AppendUint32(b, uint32(n))
		}
		for _, text := range []string{x.Name, x.Desc} {
			b = append(b, text...)
			for len(b)%4 != 0 {
				b = append(b, 0)
			}
		}
	}
	return string(b)
}

// P10.2: of any bytes, either there are notes, which are put as these bytes, or
// there is one of the two errors and nothing else.
func TestNotesOfAnyBytes(t *testing.T) {
	random := rand.New(rand.NewSource(103))
	seen := map[api.Errno]int{}
	for range 100000 {
		f := forms[random.Intn(len(forms))]
		b := make([]byte, 4*random.Intn(12)+random.Intn(2)*random.Intn(4))
		for k := range b {
			if random.Intn(4) == 0 {
				b[k] = byte(random.Intn(6))
			}
		}
		s := string(b)
		l, e := Notes(f, s)
		seen[e]++
		switch e {
		case api.OK:
			if got, ok := PutNotes(f, l...); got != s || !ok {
				t.Fatalf("Notes(%v, %q) = %v, put as %q, %v", f, s, l, got, ok)
			}
		case api.ErrShort, api.ErrData:
			if len(l) != 0 {
				t.Fatalf("Notes(%v, %q) = %v, %v", f, s, l, e)
			}
		default:
			t.Fatalf("Notes(%v, %q) = %v, %v", f, s, l, e)
		}
	}
	for _, e := range []api.Errno{api.OK, api.ErrShort, api.ErrData} {
		if seen[e] < 100 {
			t.Errorf("error %d was met %d times", e, seen[e])
		}
	}
}
