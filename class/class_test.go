package class

import (
	"math"
	"math/big"
	"math/rand"
	"slices"
	"strings"
	"testing"

	"graver/api"
	"graver/order"
)

var forms = []Form{
	{},
	{Wide: true},
	{Order: order.Order{Big: true}},
	{Order: order.Order{Big: true}, Wide: true},
}

const plain = "\x7fELF\x01\x01\x01\x00\x00\x00\x00\x00\x00\x00\x00\x00"

// with returns the bytes of plain with some of them, from an offset on, changed.
func with(at int, s string) string { return plain[:at] + s + plain[at+len(s):] }

// P4.1
func TestRead(t *testing.T) {
	narrowLittle, wideLittle, narrowBig, wideBig := forms[0], forms[1], forms[2], forms[3]
	const zero = "\x00\x00\x00\x00\x00\x00\x00"
	cases := []struct {
		s    string
		want Ident
		err  api.Errno
	}{
		{plain, Ident{narrowLittle, 0, 0, zero}, api.OK},
		{with(4, "\x02"), Ident{wideLittle, 0, 0, zero}, api.OK},
		{with(5, "\x02"), Ident{narrowBig, 0, 0, zero}, api.OK},
		{with(4, "\x02\x02"), Ident{wideBig, 0, 0, zero}, api.OK},
		{with(7, "\x09"), Ident{narrowLittle, 9, 0, zero}, api.OK},
		{with(8, "\x09"), Ident{narrowLittle, 0, 9, zero}, api.OK},
		{with(7, "\xff\xfepadding"), Ident{narrowLittle, 255, 254, "padding"}, api.OK},
		{with(7, "\x01\x02\x00\x01\x02\x03\x04\x05\x06") + "more", Ident{narrowLittle, 1, 2, "\x00\x01\x02\x03\x04\x05\x06"}, api.OK},
		{plain + plain, Ident{narrowLittle, 0, 0, zero}, api.OK},

		{"", Ident{}, api.ErrShort},
		{"\x7fELF", Ident{}, api.ErrShort},
		{plain[:15], Ident{}, api.ErrShort},
		{strings.Repeat("x", 15), Ident{}, api.ErrShort},
		{strings.Repeat("x", 16), Ident{}, api.ErrMagic},
		{with(0, "\x7e"), Ident{}, api.ErrMagic},
		{with(1, "e"), Ident{}, api.ErrMagic},
		{with(2, "l"), Ident{}, api.ErrMagic},
		{with(3, "f"), Ident{}, api.ErrMagic},
		{with(3, "f\x00\x00\x00"), Ident{}, api.ErrMagic},
		{with(4, "\x00"), Ident{}, api.ErrClass},
		{with(4, "\x03"), Ident{}, api.ErrClass},
		{with(4, "\xff"), Ident{}, api.ErrClass},
		{with(4, "\x00\x00\x00"), Ident{}, api.ErrClass},
		{with(5, "\x00"), Ident{}, api.ErrData},
		{with(5, "\x03"), Ident{}, api.ErrData},
		{with(5, "\xff\x00"), Ident{}, api.ErrData},
		{with(6, "\x00"), Ident{}, api.ErrVersion},
		{with(6, "\x02"), Ident{}, api.ErrVersion},
		{with(6, "\xff"), Ident{}, api.ErrVersion},
	}
	for _, c := range cases {
		if got, err := Read(c.s); got != c.want || err != c.err {
			t.Errorf("Read(%q) = %v, %d, want %v, %d", c.s, got, err, c.want, c.err)
		}
	}
}

// P4.1: of each of the bytes every value.
func TestReadOfEveryByte(t *testing.T) {
	for at := range len(plain) {
		for value := range 256 {
			s := with(at, string([]byte{byte(value)}))
			want := api.OK
			switch {
			case at < 4 && s[at] != plain[at]:
				want = api.ErrMagic
			case at == 4 && value != 1 && value != 2:
				want = api.ErrClass
			case at == 5 && value != 1 && value != 2:
				want = api.ErrData
			case at == 6 && value != 1:
				want = api.ErrVersion
			}
			i, err := Read(s)
			if err != want {
				t.Errorf("Read(%q): %d, want %d", s, err, want)
			}
			if err == api.OK && i.Bytes() != s {
				t.Errorf("%q is written as %q", s, i.Bytes())
			}
			if err != api.OK && i != (Ident{}) {
				t.Errorf("Read(%q) = %v", s, i)
			}
		}
	}
}

// P4.1
func TestBytes(t *testing.T) {
	cases := []struct {
		i    Ident
		want string
	}{
		{Ident{}, plain},
		{Ident{Form: forms[1]}, with(4, "\x02")},
		{Ident{Form: forms[2]}, with(5, "\x02")},
		{Ident{Form: forms[3], ABI: 3, Version: 4}, with(4, "\x02\x02\x01\x03\x04")},
		{Ident{Pad: "abc"}, with(9, "abc")},
		{Ident{Pad: "\x00\x00c"}, with(11, "c")},
		{Ident{Pad: "padding"}, with(9, "padding")},
		{Ident{Pad: "paddings"}, with(9, "padding")},
		{Ident{ABI: 255, Version: 255, Pad: strings.Repeat("x", 100)}, with(7, "\xff\xffxxxxxxx")},
	}
	for _, c := range cases {
		if got := c.i.Bytes(); got != c.want {
			t.Errorf("%v.Bytes() = %q, want %q", c.i, got, c.want)
		}
	}
}

// P4.2
func TestWord(t *testing.T) {
	for _, f := range forms {
		want := 4
		if f.Wide {
			want = 8
		}
		if got := f.Word(); got != want {
			t.Errorf("%v.Word() = %d", f, got)
		}
	}
}

// P4.2
func TestFits(t *testing.T) {
	cases := []struct {
		l            []uint64
		narrow, wide bool
	}{
		{nil, true, true},
		{[]uint64{0}, true, true},
		{[]uint64{1<<32 - 1}, true, true},
		{[]uint64{1 << 32}, false, true},
		{[]uint64{1<<32 + 1}, false, true},
		{[]uint64{math.MaxUint64}, false, true},
		{[]uint64{1 << 63}, false, true},
		{[]uint64{1, 2, 1<<32 - 1}, true, true},
		{[]uint64{1 << 32, 1, 2}, false, true},
		{[]uint64{1, 1 << 32, 2}, false, true},
		{[]uint64{1, 2, 1 << 32}, false, true},
	}
	for _, c := range cases {
		for _, f := range forms {
			want := c.narrow
			if f.Wide {
				want = c.wide
			}
			if got := f.Fits(c.l...); got != want {
				t.Errorf("%v.Fits(%d) = %v", f, c.l, got)
			}
		}
	}
}

// P4.2
func TestSizes(t *testing.T) {
	cases := []struct {
		sizes        []int
		narrow, wide []int
		sum, wideSum int
	}{
		{nil, nil, nil, 0, 0},
		{[]int{0}, []int{4}, []int{8}, 4, 8},
		{[]int{2, 0, 1}, []int{2, 4, 1}, []int{2, 8, 1}, 7, 11},
		{[]int{4, 4, 0, 0, 0, 0, 4, 4, 0, 0}, []int{4, 4, 4, 4, 4, 4, 4, 4, 4, 4}, []int{4, 4, 8, 8, 8, 8, 4, 4, 8, 8}, 40, 64},
		{[]int{-1, 9, 100}, []int{-1, 9, 100}, []int{-1, 9, 100}, 108, 108},
		{[]int{math.MaxInt, 1}, []int{math.MaxInt, 1}, []int{math.MaxInt, 1}, math.MinInt, math.MinInt},
		{[]int{math.MinInt, -1}, []int{math.MinInt, -1}, []int{math.MinInt, -1}, math.MaxInt, math.MaxInt},
		{[]int{math.MaxInt, 0}, []int{math.MaxInt, 4}, []int{math.MaxInt, 8}, math.MinInt + 3, math.MinInt + 7},
	}
	for _, c := range cases {
		for _, f := range forms {
			want, wantSum := c.narrow, c.sum
			if f.Wide {
				want, wantSum = c.wide, c.wideSum
			}
			if got, sum := f.Sizes(c.sizes...); !slices.Equal(got, want) || sum != wantSum {
				t.Errorf("%v.Sizes(%d) = %d, %d, want %d, %d", f, c.sizes, got, sum, want, wantSum)
			}
		}
	}
}

// Rules: results are new, and arguments are not modified.
func TestSizesAreNew(t *testing.T) {
	sizes := []int{0, 1, 0, 7}
	l, _ := Form{}.Sizes(sizes[:3]...)
	if !slices.Equal(sizes, []int{0, 1, 0, 7}) {
		t.Error(sizes)
	}
	l[1] = 100
	_ = append(l, 100)
	if !slices.Equal(sizes, []int{0, 1, 0, 7}) {
		t.Error(sizes)
	}
}

// P4.2
func TestRecord(t *testing.T) {
	narrowLittle, wideLittle, narrowBig, wideBig := forms[0], forms[1], forms[2], forms[3]
	cases := []struct {
		f     Form
		sizes []int
		l     []uint64
		want  string
		ok    bool
	}{
		{narrowLittle, nil, nil, "", true},
		{narrowLittle, []int{0}, []uint64{258}, "\x02\x01\x00\x00", true},
		{narrowBig, []int{0}, []uint64{258}, "\x00\x00\x01\x02", true},
		{wideLittle, []int{0}, []uint64{258}, "\x02\x01\x00\x00\x00\x00\x00\x00", true},
		{wideBig, []int{0}, []uint64{258}, "\x00\x00\x00\x00\x00\x00\x01\x02", true},
		{narrowBig, []int{2, 0, 1}, []uint64{1, 2, 3}, "\x00\x01\x00\x00\x00\x02\x03", true},
		{wideLittle, []int{2, 0, 1}, []uint64{1, 2, 3}, "\x01\x00\x02\x00\x00\x00\x00\x00\x00\x00\x03", true},
		{narrowLittle, []int{0}, []uint64{1<<32 - 1}, "\xff\xff\xff\xff", true},
		{narrowLittle, []int{0}, []uint64{1 << 32}, "", false},
		{wideLittle, []int{0}, []uint64{1 << 32}, "\x00\x00\x00\x00\x01\x00\x00\x00", true},
		{wideBig, []int{0}, []uint64{math.MaxUint64}, "\xff\xff\xff\xff\xff\xff\xff\xff", true},
		{narrowBig, []int{8}, []uint64{math.MaxUint64}, "\xff\xff\xff\xff\xff\xff\xff\xff", true},
		{narrowLittle, []int{1}, []uint64{255}, "\xff", true},
		{narrowLittle, []int{1}, []uint64{256}, "", false},
		{wideLittle, []int{4, 1}, []uint64{0, 256}, "", false},
		{wideLittle, []int{1, 4}, []uint64{256, 0}, "", false},
		{narrowLittle, []int{-1}, []uint64{0}, "", false},
		{narrowLittle, []int{9}, []uint64{0}, "", false},
		{narrowLittle, []int{math.MinInt}, []uint64{0}, "", false},
		{narrowLittle, []int{math.MaxInt}, []uint64{0}, "", false},
		{narrowLittle, []int{1 << 61}, []uint64{0}, "", false},
		{narrowLittle, []int{1, 9}, []uint64{0, 0}, "", false},
		{narrowLittle, []int{-1, 1}, []uint64{0, 0}, "", false},
		{narrowLittle, []int{1, 2}, []uint64{1}, "", false},
		{narrowLittle, []int{1}, []uint64{1, 2}, "", false},
		{narrowLittle, []int{1}, nil, "", false},
		{narrowLittle, nil, []uint64{1}, "", false},
	}
	for _, c := range cases {
		if got, ok := c.f.Record(c.sizes, c.l...); got != c.want || ok != c.ok {
			t.Errorf("%v.Record(%d, %d) = %q, %v, want %q, %v", c.f, c.sizes, c.l, got, ok, c.want, c.ok)
		}
	}
}

// P4.2: a number fits if it is less than 2^(8·size), for every size and form.
func TestRecordOfEverySize(t *testing.T) {
	for _, f := range forms {
		for size := range 9 {
			full := size
			if size == 0 {
				full = f.Word()
			}
			limit := new(big.Int).Lsh(big.NewInt(1), uint(8*full))
			for bit := range 64 {
				for _, n := range []uint64{1 << bit, 1<<bit - 1, 1<<bit + 1, math.MaxUint64 << bit} {
					fit := new(big.Int).SetUint64(n).Cmp(limit) < 0
					want := ""
					if fit {
						want = f.Put(n, full)
					}
					if got, ok := f.Record([]int{size}, n); ok != fit || got != want {
						t.Errorf("%v.Record({%d}, %#x) = %q, %v", f, size, n, got, ok)
					}
				}
			}
		}
	}
}

// P4.2: a record is read again by a reader of the form.
func TestRecordIsReadAgain(t *testing.T) {
	random := rand.New(rand.NewSource(42))
	for _, f := range forms {
		for range 500 {
			sizes := make([]int, random.Intn(8))
			for k := range sizes {
				sizes[k] = random.Intn(9)
			}
			full, sum := f.Sizes(sizes...)
			l := make([]uint64, len(sizes))
			for k := range l {
				l[k] = random.Uint64() >> (64 - 8*full[k])
			}
			s, ok := f.Record(sizes, l...)
			if !ok || len(s) != sum || s != f.Fields(full, l...) {
				t.Fatalf("%v.Record(%d, %d) = %q, %v", f, sizes, l, s, ok)
			}
			r := f.Read(s, 0)
			for k, size := range full {
				if n := r.Next(size); n != l[k] {
					t.Fatalf("%v: field %d of %q is %#x, want %#x", f, k, s, n, l[k])
				}
			}
			if r.Err() != api.OK {
				t.Fatal(r.Err())
			}
		}
	}
}

// Rules: arguments are not modified, including their spare capacity.
func TestRecordLeavesItsArguments(t *testing.T) {
	sizes := []int{0, 1, 0, 7}
	l := []uint64{10, 20, 30, 40}
	forms[3].Record(sizes[:3], l[:3]...)
	if !slices.Equal(sizes, []int{0, 1, 0, 7}) || !slices.Equal(l, []uint64{10, 20, 30, 40}) {
		t.Error(sizes, l)
	}
}

// P4.2: a form gives what its order gives.
func TestFormHasTheCallsOfItsOrder(t *testing.T) {
	for _, f := range forms {
		i := Ident{Form: f}
		if i.Put(258, 4) != f.Order.Put(258, 4) || i.Get("\x01\x02") != f.Order.Get("\x01\x02") {
			t.Error(f)
		}
		if got, want := i.Read("\x01\x02\x03", 1).Next(2), f.Order.Read("\x01\x02\x03", 1).Next(2); got != want {
			t.Errorf("%v: %#x, want %#x", f, got, want)
		}
	}
}
