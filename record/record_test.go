package record

import (
	"math"
	"math/rand"
	"slices"
	"testing"

	"graver/class"
	"graver/order"
)

var forms = []class.Form{
	{},
	{Wide: true},
	{Order: order.Order{Big: true}},
	{Order: order.Order{Big: true}, Wide: true},
}

func TestRead(t *testing.T) {
	narrowLittle, wideLittle, narrowBig, wideBig := forms[0], forms[1], forms[2], forms[3]
	cases := []struct {
		f     class.Form
		s     string
		sizes []int
		want  []uint64
		ok    bool
	}{
		{narrowLittle, "", nil, nil, true},
		{narrowLittle, "abc", nil, nil, true},
		{narrowLittle, "\x02\x01", []int{2}, []uint64{258}, true},
		{narrowBig, "\x02\x01", []int{2}, []uint64{513}, true},
		{narrowLittle, "\x02\x01\x07\x00\x00\x00more", []int{2, 0}, []uint64{258, 7}, true},
		{narrowBig, "\x01\x02\x00\x00\x00\x07", []int{2, 0}, []uint64{258, 7}, true},
		{wideLittle, "\x02\x01\x07\x00\x00\x00\x00\x00\x00\x80", []int{2, 0}, []uint64{258, 1<<63 + 7}, true},
		{wideBig, "\x01\x02\x80\x00\x00\x00\x00\x00\x00\x07", []int{2, 0}, []uint64{258, 1<<63 + 7}, true},
		{narrowLittle, "\x01\x02\x03\x04\x05\x06\x07\x08", []int{8}, []uint64{0x0807060504030201}, true},

		{narrowLittle, "", []int{1}, nil, false},
		{narrowLittle, "\x01\x02\x03", []int{0}, nil, false},
		{narrowLittle, "\x01\x02\x03\x04\x05", []int{2, 0}, nil, false},
		{wideLittle, "\x01\x02\x03\x04\x05\x06\x07", []int{0}, nil, false},
		{narrowLittle, "\x01\x02", []int{2, 1}, nil, false},
		{narrowLittle, "\x01\x02", []int{3, 1}, nil, false},
		{narrowLittle, "123456789", []int{9}, nil, false},
		{narrowLittle, "123456789", []int{-1}, nil, false},
		{narrowLittle, "123456789", []int{1, -1, 1}, nil, false},
		{narrowLittle, "123456789", []int{math.MaxInt, 1}, nil, false},
		{narrowLittle, "123456789", []int{math.MinInt, 1}, nil, false},
	}
	for _, c := range cases {
		if got, ok := Read(c.f, c.s, c.sizes...); !slices.Equal(got, c.want) || ok != c.ok {
			t.Errorf("Read(%v, %q, %d) = %d, %v, want %d, %v", c.f, c.s, c.sizes, got, ok, c.want, c.ok)
		}
	}
}

// What Record of layer 4 writes is read again, and not from fewer bytes.
func TestReadOfRecords(t *testing.T) {
	random := rand.New(rand.NewSource(5))
	for _, f := range forms {
		for range 300 {
			sizes := make([]int, 1+random.Intn(8))
			for k := range sizes {
				sizes[k] = random.Intn(9)
			}
			full, sum := f.Sizes(sizes...)
			l := make([]uint64, len(sizes))
			for k := range l {
				l[k] = random.Uint64() >> (64 - 8*full[k])
			}
			s, _ := f.Record(sizes, l...)
			if got, ok := Read(f, s+"x", sizes...); !ok || !slices.Equal(got, l) {
				t.Fatalf("Read(%v, %q, %d) = %d, %v, want %d", f, s, sizes, got, ok, l)
			}
			if got, ok := Read(f, s[:sum-1], sizes...); ok || got != nil {
				t.Fatalf("Read(%v, %q, %d) = %d, %v", f, s[:sum-1], sizes, got, ok)
			}
		}
	}
}

// Rules: arguments are not modified.
func TestReadLeavesItsSizes(t *testing.T) {
	sizes := []int{0, 1, 0, 0}
	Read(forms[1], "0123456789", sizes[:2]...)
	if !slices.Equal(sizes, []int{0, 1, 0, 0}) {
		t.Error(sizes)
	}
}
