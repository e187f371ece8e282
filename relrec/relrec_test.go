package relrec

import (
	"math"
	"math/rand"
	"slices"
	"strings"
	"testing"

	"graver/class"
	"graver/order"
)

var forms = []class.Form{
	{},
	{Wide: true},
	{Order: order.Order{Big: true}},
	{Order: order.Order{Big: true}, Wide: true},
}

var addends = []bool{false, true}

// P9.1
func TestSize(t *testing.T) {
	for _, f := range forms {
		plain, addend := 8, 12
		if f.Wide {
			plain, addend = 16, 24
		}
		if Size(f, false) != plain || Size(f, true) != addend {
			t.Errorf("Size(%v) is %d, with an addend %d", f, Size(f, false), Size(f, true))
		}
	}
}

var counted = Reloc{Offset: 1, Sym: 0x020304, Type: 5, Addend: 6}

// The encodings of counted, of which the last word is the Addend.
const (
	narrowLittle = "\x01\x00\x00\x00\x05\x04\x03\x02\x06\x00\x00\x00"
	wideLittle   = "\x01\x00\x00\x00\x00\x00\x00\x00" +
		"\x05\x00\x00\x00\x04\x03\x02\x00\x06\x00\x00\x00\x00\x00\x00\x00"
	narrowBig = "\x00\x00\x00\x01\x02\x03\x04\x05\x00\x00\x00\x06"
	wideBig   = "\x00\x00\x00\x00\x00\x00\x00\x01" +
		"\x00\x02\x03\x04\x00\x00\x00\x05\x00\x00\x00\x00\x00\x00\x00\x06"
)

// P9.2; each number alone: see record/layers_test.go.
func TestPutAndRead(t *testing.T) {
	for k, whole := range []string{narrowLittle, wideLittle, narrowBig, wideBig} {
		f := forms[k]
		plain := counted
		plain.Addend = 0
		tryPutAndRead(t, f, true, counted, whole)
		tryPutAndRead(t, f, false, plain, whole[:len(whole)-f.Word()])
	}
}

func tryPutAndRead(t *testing.T, f class.Form, addend bool, x Reloc, want string) {
	if got, ok := Put(f, addend, x); got != want || !ok {
		t.Errorf("Put(%v, %v) = %q, %v, want %q", f, addend, got, ok, want)
	}
	for _, more := range []string{"", "x", strings.Repeat("more", 100)} {
		if got, ok := Read(f, addend, want+more); got != x || !ok {
			t.Errorf("Read(%v, %v) = %v, %v", f, addend, got, ok)
		}
	}
	for n := range len(want) {
		if got, ok := Read(f, addend, want[:n]); got != (Reloc{}) || ok {
			t.Errorf("Read(%v, %v) of %d bytes = %v, %v", f, addend, n, got, ok)
		}
	}
}

// P9.1, P9.2: Good, and with it Put, at the edges of what each number may be.
func TestGood(t *testing.T) {
	const wide, narrow = 1, 2
	cases := []struct {
		x                 Reloc
		plain, withAddend int // the forms in which it is Good
	}{
		{Reloc{}, wide | narrow, wide | narrow},
		{counted, 0, wide | narrow},
		{Reloc{Addend: 1}, 0, wide | narrow},
		{Reloc{Addend: math.MaxUint32}, 0, wide | narrow},
		{Reloc{Addend: 1 << 32}, 0, wide},
		{Reloc{Addend: math.MaxUint64}, 0, wide},
		{Reloc{Offset: math.MaxUint32}, wide | narrow, wide | narrow},
		{Reloc{Offset: 1 << 32}, wide, wide},
		{Reloc{Offset: math.MaxUint64}, wide, wide},
		{Reloc{Type: 255}, wide | narrow, wide | narrow},
		{Reloc{Type: 256}, wide, wide},
		{Reloc{Type: math.MaxUint32}, wide, wide},
		{Reloc{Type: 1 << 32}, 0, 0},
		{Reloc{Type: math.MaxUint64}, 0, 0},
		{Reloc{Sym: 1<<24 - 1}, wide | narrow, wide | narrow},
		{Reloc{Sym: 1 << 24}, wide, wide},
		{Reloc{Sym: math.MaxUint32}, wide, wide},
		{Reloc{Sym: 1 << 32}, 0, 0},
		{Reloc{Sym: 1 << 56}, 0, 0},
		{Reloc{Sym: math.MaxUint64}, 0, 0},
		{Reloc{math.MaxUint32, 1<<24 - 1, 255, 0}, wide | narrow, wide | narrow},
		{Reloc{math.MaxUint32, 1<<24 - 1, 255, math.MaxUint32}, 0, wide | narrow},
		{Reloc{math.MaxUint64, math.MaxUint32, math.MaxUint32, 0}, wide, wide},
		{Reloc{math.MaxUint64, math.MaxUint32, math.MaxUint32, math.MaxUint64}, 0, wide},
		{Reloc{math.MaxUint64, math.MaxUint64, math.MaxUint64, math.MaxUint64}, 0, 0},
	}
	for _, c := range cases {
		for _, f := range forms {
			kind := narrow
			if f.Wide {
				kind = wide
			}
			tryGood(t, f, false, c.x, c.plain&kind != 0)
			tryGood(t, f, true, c.x, c.withAddend&kind != 0)
		}
	}
}

func tryGood(t *testing.T, f class.Form, addend bool, x Reloc, want bool) {
	if x.Good(f, addend) != want {
		t.Errorf("%+v.Good(%v, %v) is not %v", x, f, addend, want)
	}
	s, ok := Put(f, addend, x)
	if ok != want || !ok && s != "" {
		t.Errorf("Put(%v, %v, %+v) = %q, %v", f, addend, x, s, ok)
	}
	if !want {
		return
	}
	if got, ok := Read(f, addend, s); got != x || !ok {
		t.Errorf("Put(%v, %v, %+v) = %q, read as %+v, %v", f, addend, x, s, got, ok)
	}
}

// many returns n relocations that are Good in all forms, with an addend or
// without.
func many(n int, addend bool) []Reloc {
	random := rand.New(rand.NewSource(93))
	l := make([]Reloc, n)
	for k := range l {
		l[k] = Reloc{
			Offset: random.Uint64() >> 32,
			Sym:    random.Uint64() >> 40,
			Type:   random.Uint64() >> 56,
		}
		if addend {
			l[k].Addend = random.Uint64() >> 32
		}
	}
	return l
}

// P9.3
func TestPutAllAndReadAll(t *testing.T) {
	for _, f := range forms {
		for _, addend := range addends {
			for _, n := range []int{0, 1, 2, 3, 100, 20000} {
				tryAll(t, f, addend, many(n, addend))
			}
		}
	}
}

func tryAll(t *testing.T, f class.Form, addend bool, l []Reloc) {
	given := slices.Clone(l)
	var want strings.Builder
	for _, x := range l {
		s, _ := Put(f, addend, x)
		want.WriteString(s)
	}
	s, ok := PutAll(f, addend, l...)
	if s != want.String() || !ok {
		t.Errorf("PutAll(%v, %v) of %d: %d bytes, %v", f, addend, len(l), len(s), ok)
	}
	if got, ok := ReadAll(f, addend, s); !slices.Equal(got, given) || !ok {
		t.Errorf("ReadAll(%v, %v) of %d: %d, %v", f, addend, len(l), len(got), ok)
	}
	if !slices.Equal(l, given) {
		t.Error("PutAll changes its argument")
	}
}

// P9.3: one that is not Good, wherever it stands, is enough.
func TestPutAllOfBadOnes(t *testing.T) {
	for _, f := range forms {
		for _, addend := range addends {
			bad := []Reloc{{Type: 1 << 32}, {Sym: 1 << 32}}
			if !addend {
				bad = append(bad, Reloc{Addend: 1})
			}
			if !f.Wide {
				bad = append(bad, Reloc{Type: 256}, Reloc{Sym: 1 << 24}, Reloc{Offset: 1 << 32}, Reloc{Addend: 1 << 32})
			}
			for _, x := range bad {
				for at := range 4 {
					l := slices.Insert(many(3, addend), at, x)
					if s, ok := PutAll(f, addend, l...); s != "" || ok {
						t.Errorf("PutAll(%v, %v, %v) = %q, %v", f, addend, l, s, ok)
					}
				}
			}
		}
	}
}

// P9.3: ReadAll takes whole relocations alone, whatever their bytes are.
func TestReadAllOfAnyLength(t *testing.T) {
	random := rand.New(rand.NewSource(94))
	for _, f := range forms {
		for _, addend := range addends {
			size := Size(f, addend)
			for n := range 4*size + 2 {
				b := make([]byte, n)
				random.Read(b)
				l, ok := ReadAll(f, addend, string(b))
				if n%size != 0 {
					if len(l) != 0 || ok {
						t.Errorf("ReadAll(%v, %v) of %d bytes: %v, %v", f, addend, n, l, ok)
					}
					continue
				}
				if len(l) != n/size || !ok {
					t.Errorf("ReadAll(%v, %v) of %d bytes: %v, %v", f, addend, n, l, ok)
				}
				if s, ok := PutAll(f, addend, l...); s != string(b) || !ok {
					t.Errorf("PutAll(%v, %v) of what is read of %q: %q, %v", f, addend, b, s, ok)
				}
			}
		}
	}
}
