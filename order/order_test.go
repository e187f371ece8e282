package order

import (
	"encoding/binary"
	"math"
	"math/big"
	"slices"
	"testing"
)

var (
	little = Order{}
	bigEnd = Order{Big: true}
	orders = []Order{little, bigEnd}
)

// numbers with every bit pattern at which a size begins or ends.
func numbers() []uint64 {
	l := []uint64{0, 1, 2, 258, 0x0123456789abcdef, 0xfedcba9876543210, math.MaxUint64}
	for bit := range 64 {
		l = append(l, 1<<bit, 1<<bit-1, 1<<bit+1)
	}
	return l
}

var wrongSizes = []int{0, -1, -8, 9, 10, 16, 64, math.MaxInt, math.MinInt}

// P1.1
func TestPutWritesTheDocumentsExamples(t *testing.T) {
	cases := []struct {
		o    Order
		n    uint64
		size int
		want string
	}{
		{little, 258, 4, "\x02\x01\x00\x00"},
		{bigEnd, 258, 4, "\x00\x00\x01\x02"},
		{little, 258, 1, "\x02"},
		{bigEnd, 258, 1, "\x02"},
		{little, 0x010203, 2, "\x03\x02"},
		{bigEnd, 0x010203, 2, "\x02\x03"},
		{little, 0x0102030405060708, 8, "\x08\x07\x06\x05\x04\x03\x02\x01"},
		{bigEnd, 0x0102030405060708, 8, "\x01\x02\x03\x04\x05\x06\x07\x08"},
		{little, 0x0102030405060708, 7, "\x08\x07\x06\x05\x04\x03\x02"},
		{bigEnd, 0x0102030405060708, 7, "\x02\x03\x04\x05\x06\x07\x08"},
		{little, math.MaxUint64, 3, "\xff\xff\xff"},
		{bigEnd, 0, 5, "\x00\x00\x00\x00\x00"},
	}
	for _, c := range cases {
		if got := c.o.Put(c.n, c.size); got != c.want {
			t.Errorf("%v.Put(%#x, %d) = %q, want %q", c.o, c.n, c.size, got, c.want)
		}
	}
}

// P1.1
func TestPutIsTheLowEndOfEightBytes(t *testing.T) {
	for _, n := range numbers() {
		var b, l [8]byte
		binary.BigEndian.PutUint64(b[:], n)
		binary.LittleEndian.PutUint64(l[:], n)
		for size := 1; size <= 8; size++ {
			if got := bigEnd.Put(n, size); got != string(b[8-size:]) {
				t.Errorf("big Put(%#x, %d) = %q", n, size, got)
			}
			if got := little.Put(n, size); got != string(l[:size]) {
				t.Errorf("little Put(%#x, %d) = %q", n, size, got)
			}
		}
	}
}

// P1.1
func TestPutOfAWrongSizeIsEmpty(t *testing.T) {
	for _, o := range orders {
		for _, size := range wrongSizes {
			if got := o.Put(258, size); got != "" {
				t.Errorf("%v.Put(258, %d) = %q", o, size, got)
			}
		}
	}
}

// P1.1
func TestGetReadsBytes(t *testing.T) {
	cases := []struct {
		o    Order
		s    string
		want uint64
	}{
		{little, "", 0},
		{bigEnd, "", 0},
		{little, "\xff", 255},
		{bigEnd, "\xff", 255},
		{little, "\x01\x00", 1},
		{bigEnd, "\x01\x00", 256},
		{little, "\x01\x02\x03", 0x030201},
		{bigEnd, "\x01\x02\x03", 0x010203},
		{little, "\x01\x02\x03\x04\x05\x06\x07\x08", 0x0807060504030201},
		{bigEnd, "\x01\x02\x03\x04\x05\x06\x07\x08", 0x0102030405060708},
		{little, "\xff\xff\xff\xff\xff\xff\xff\xff", math.MaxUint64},
		{bigEnd, "\xff\xff\xff\xff\xff\xff\xff\xff", math.MaxUint64},
		{little, "\x01\x00\x00\x00\x00\x00\x00\x00\x00", 0},
		{bigEnd, "\x00\x00\x00\x00\x00\x00\x00\x00\x01", 0},
		{little, "0123456789abcdef", 0},
		{bigEnd, "0123456789abcdef", 0},
	}
	for _, c := range cases {
		if got := c.o.Get(c.s); got != c.want {
			t.Errorf("%v.Get(%q) = %#x, want %#x", c.o, c.s, got, c.want)
		}
	}
}

// P1.1
func TestGetUndoesPut(t *testing.T) {
	for _, o := range orders {
		for _, n := range numbers() {
			for size := 1; size <= 8; size++ {
				want := n
				if size < 8 {
					want = n % (1 << (8 * size))
				}
				if got := o.Get(o.Put(n, size)); got != want {
					t.Errorf("%v: %#x in %d bytes is read as %#x", o, n, size, got)
				}
			}
		}
	}
}

// P1.1
func TestFieldsJoinsNumbers(t *testing.T) {
	cases := []struct {
		o     Order
		sizes []int
		l     []uint64
		want  string
	}{
		{little, nil, nil, ""},
		{little, []int{1, 2}, nil, ""},
		{little, nil, []uint64{1, 2}, ""},
		{little, []int{1, 2, 4}, []uint64{7, 8}, "\x07\x08\x00"},
		{bigEnd, []int{1, 2, 4}, []uint64{7, 8}, "\x07\x00\x08"},
		{little, []int{2}, []uint64{7, 8}, "\x07\x00"},
		{bigEnd, []int{2, 1, 3}, []uint64{1, 0x0203, 4}, "\x00\x01\x03\x00\x00\x04"},
		{little, []int{1, 0, 9, -1, 2}, []uint64{1, 2, 3, 4, 5}, "\x01\x05\x00"},
		{bigEnd, []int{8, 8}, []uint64{math.MaxUint64, 1}, "\xff\xff\xff\xff\xff\xff\xff\xff\x00\x00\x00\x00\x00\x00\x00\x01"},
	}
	for _, c := range cases {
		if got := c.o.Fields(c.sizes, c.l...); got != c.want {
			t.Errorf("%v.Fields(%v, %v) = %q, want %q", c.o, c.sizes, c.l, got, c.want)
		}
	}
}

// Rules: arguments are not modified, including their spare capacity.
func TestFieldsLeavesItsArguments(t *testing.T) {
	sizes := []int{1, 2, 3, 4}
	l := []uint64{10, 20, 30, 40}
	bigEnd.Fields(sizes[:2], l[:3]...)
	if !slices.Equal(sizes, []int{1, 2, 3, 4}) || !slices.Equal(l, []uint64{10, 20, 30, 40}) {
		t.Error(sizes, l)
	}
}

// P1.3
func TestSignedReadsNumbersBelowZero(t *testing.T) {
	cases := []struct {
		o    Order
		s    string
		want int64
	}{
		{little, "", 0},
		{bigEnd, "", 0},
		{little, "\x7f", 127},
		{little, "\x80", -128},
		{bigEnd, "\xff", -1},
		{little, "\x00\x80", -32768},
		{bigEnd, "\x00\x80", 128},
		{little, "\x80\x00", 128},
		{bigEnd, "\x80\x00", -32768},
		{little, "\xfe\xff\xff", -2},
		{bigEnd, "\xff\xff\xfe", -2},
		{bigEnd, "\x7f\xff\xff", 1<<23 - 1},
		{little, "\x00\x00\x00\x80", math.MinInt32},
		{little, "\xff\xff\xff\xff\xff\xff\xff\x7f", math.MaxInt64},
		{bigEnd, "\x80\x00\x00\x00\x00\x00\x00\x00", math.MinInt64},
		{bigEnd, "\xff\xff\xff\xff\xff\xff\xff\xff", -1},
		{bigEnd, "\xff\xff\xff\xff\xff\xff\xff\xff\xff", 0},
		{little, "\xff\xff\xff\xff\xff\xff\xff\xff\xff", 0},
		{little, "\x01\x00\x00\x00\x00\x00\x00\x00\x00\x00", 0},
	}
	for _, c := range cases {
		if got := c.o.Signed(c.s); got != c.want {
			t.Errorf("%v.Signed(%q) = %d, want %d", c.o, c.s, got, c.want)
		}
	}
}

// P1.3
func TestSignedIsGetLessThePower(t *testing.T) {
	for _, o := range orders {
		for _, n := range numbers() {
			for size := 1; size <= 8; size++ {
				s := o.Put(n, size)
				want := new(big.Int).SetUint64(o.Get(s))
				if want.Bit(8*size-1) == 1 {
					want.Sub(want, new(big.Int).Lsh(big.NewInt(1), uint(8*size)))
				}
				if got := o.Signed(s); big.NewInt(got).Cmp(want) != 0 {
					t.Errorf("%v.Signed(%q) = %d, want %d", o, s, got, want)
				}
			}
		}
	}
}

// P1.3
func TestSwapTurnsBytesAround(t *testing.T) {
	cases := []struct {
		n    uint64
		size int
		want uint64
	}{
		{0x12, 1, 0x12},
		{0x1234, 1, 0x34},
		{0x1234, 2, 0x3412},
		{1, 2, 256},
		{0x010203, 3, 0x030201},
		{0xff010203, 3, 0x030201},
		{1, 4, 1 << 24},
		{0x0102030405060708, 8, 0x0807060504030201},
		{math.MaxUint64, 5, 1<<40 - 1},
	}
	for _, c := range cases {
		if got := Swap(c.n, c.size); got != c.want {
			t.Errorf("Swap(%#x, %d) = %#x, want %#x", c.n, c.size, got, c.want)
		}
	}
	for _, size := range wrongSizes {
		if got := Swap(258, size); got != 0 {
			t.Errorf("Swap(258, %d) = %#x", size, got)
		}
	}
}

// P1.3
func TestSwapIsPutInTheOtherOrder(t *testing.T) {
	for _, n := range numbers() {
		for size := 1; size <= 8; size++ {
			m := Swap(n, size)
			if little.Put(m, size) != bigEnd.Put(n, size) || bigEnd.Put(m, size) != little.Put(n, size) {
				t.Errorf("Swap(%#x, %d) = %#x", n, size, m)
			}
			if size < 8 && m >= 1<<(8*size) {
				t.Errorf("Swap(%#x, %d) = %#x has more bytes", n, size, m)
			}
		}
	}
}
