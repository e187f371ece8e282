package dynrec

import (
	"math"
	"math/rand"
	"slices"
	"strings"
	"testing"

	"graver/api"
	"graver/class"
	"graver/order"
)

var forms = []class.Form{
	{},
	{Wide: true},
	{Order: order.Order{Big: true}},
	{Order: order.Order{Big: true}, Wide: true},
}

// P10.1
func TestDynamicBytes(t *testing.T) {
	l := []Entry{{1, 2}, {0x0304, 0x05060708}}
	wants := []string{
		"\x01\x00\x00\x00\x02\x00\x00\x00\x04\x03\x00\x00\x08\x07\x06\x05\x00\x00\x00\x00\x00\x00\x00\x00",
		"\x01\x00\x00\x00\x00\x00\x00\x00\x02\x00\x00\x00\x00\x00\x00\x00" +
			"\x04\x03\x00\x00\x00\x00\x00\x00\x08\x07\x06\x05\x00\x00\x00\x00" +
			"\x00\x00\x00\x00\x00\x00\x00\x00\x00\x00\x00\x00\x00\x00\x00\x00",
		"\x00\x00\x00\x01\x00\x00\x00\x02\x00\x00\x03\x04\x05\x06\x07\x08\x00\x00\x00\x00\x00\x00\x00\x00",
		"\x00\x00\x00\x00\x00\x00\x00\x01\x00\x00\x00\x00\x00\x00\x00\x02" +
			"\x00\x00\x00\x00\x00\x00\x03\x04\x00\x00\x00\x00\x05\x06\x07\x08" +
			"\x00\x00\x00\x00\x00\x00\x00\x00\x00\x00\x00\x00\x00\x00\x00\x00",
	}
	for k, want := range wants {
		f := forms[k]
		if got, ok := PutDynamic(f, l...); got != want || !ok {
			t.Errorf("PutDynamic(%v) = %q, %v, want %q", f, got, ok, want)
		}
		tryDynamic(t, f, want, l)
	}
}

// tryDynamic: the entries of s, which ends with that whose Tag is 0, are those
// of l, whatever follows; without the last byte there is no end.
func tryDynamic(t *testing.T, f class.Form, s string, l []Entry) {
	entry := strings.Repeat("\x01", 2*f.Word())
	for _, more := range []string{"", "x", "more", entry, entry + s, s} {
		if got, e := Dynamic(f, s+more); !slices.Equal(got, l) || e != api.OK {
			t.Errorf("Dynamic(%v, %q) = %v, %v, want %v", f, s+more, got, e, l)
		}
	}
	for n := range len(s) {
		if got, e := Dynamic(f, s[:n]); len(got) != 0 || e != api.ErrEnd {
			t.Errorf("Dynamic(%v, %q) = %v, %v", f, s[:n], got, e)
		}
	}
}

// P10.1: the Tag alone tells the end.
func TestDynamicEnd(t *testing.T) {
	for _, f := range forms {
		end := f.Put(0, f.Word()) + f.Put(7, f.Word())
		tryDynamic(t, f, end, nil)
		entry := f.Put(7, f.Word()) + f.Put(0, f.Word())
		tryDynamic(t, f, entry+end, []Entry{{7, 0}})
		tryDynamic(t, f, entry+entry+end, []Entry{{7, 0}, {7, 0}})
		if got, e := Dynamic(f, entry+entry); len(got) != 0 || e != api.ErrEnd {
			t.Errorf("Dynamic(%v) without an end = %v, %v", f, got, e)
		}
	}
}

// P10.1
func TestPutDynamicOfNone(t *testing.T) {
	for _, f := range forms {
		want := strings.Repeat("\x00", 2*f.Word())
		if got, ok := PutDynamic(f); got != want || !ok {
			t.Errorf("PutDynamic(%v) = %q, %v", f, got, ok)
		}
		tryDynamic(t, f, want, nil)
	}
}

// P10.1: what may be an entry, at its edges; one that may not, wherever it
// stands, is enough.
func TestPutDynamicOfEdges(t *testing.T) {
	cases := []struct {
		x            Entry
		narrow, wide bool
	}{
		{Entry{1, 0}, true, true},
		{Entry{0, 0}, false, false},
		{Entry{0, 1}, false, false},
		{Entry{0, math.MaxUint64}, false, false},
		{Entry{math.MaxUint32, math.MaxUint32}, true, true},
		{Entry{1 << 32, 0}, false, true},
		{Entry{1, 1 << 32}, false, true},
		{Entry{math.MaxUint64, 1}, false, true},
		{Entry{1, math.MaxUint64}, false, true},
		{Entry{math.MaxUint64, math.MaxUint64}, false, true},
	}
	for _, c := range cases {
		for _, f := range forms {
			want := c.narrow
			if f.Wide {
				want = c.wide
			}
			for at := range 3 {
				l := slices.Insert([]Entry{{5, 6}, {7, 8}}, at, c.x)
				s, ok := PutDynamic(f, l...)
				if ok != want || !ok && s != "" {
					t.Errorf("PutDynamic(%v, %v) = %q, %v", f, l, s, ok)
				}
				if ok {
					tryDynamic(t, f, s, l)
				}
			}
		}
	}
}

// P10.1: lists of any length come back, and are not changed.
func TestDynamicOfMany(t *testing.T) {
	random := rand.New(rand.NewSource(101))
	for _, f := range forms {
		for _, n := range []int{1, 10, 1000, 20000} {
			l := make([]Entry, n)
			for k := range l {
				l[k] = Entry{Tag: 1 + random.Uint64()>>33, Value: random.Uint64() >> 32}
			}
			given := slices.Clone(l)
			s, ok := PutDynamic(f, l...)
			if len(s) != 2*f.Word()*(n+1) || !ok {
				t.Errorf("PutDynamic(%v) of %d: %d bytes, %v", f, n, len(s), ok)
			}
			if got, e := Dynamic(f, s); !slices.Equal(got, given) || e != api.OK {
				t.Errorf("Dynamic(%v) of %d: %d, %v", f, n, len(got), e)
			}
			if !slices.Equal(l, given) {
				t.Error("PutDynamic changes its argument")
			}
		}
	}
}

// P10.3
func TestFindAndAll(t *testing.T) {
	l := []Entry{{1, 10}, {5, 50}, {1, 0}, {math.MaxUint64, 7}, {1, 10}, {0, 3}, {1, math.MaxUint64}}
	cases := []struct {
		l   []Entry
		tag uint64
		all []uint64
	}{
		{nil, 0, nil},
		{[]Entry{}, 1, nil},
		{l, 1, []uint64{10, 0, 10, math.MaxUint64}},
		{l, 5, []uint64{50}},
		{l, 0, []uint64{3}},
		{l, math.MaxUint64, []uint64{7}},
		{l, 10, nil},
		{l, 2, nil},
		{l, 1<<32 + 1, nil},
		{l[2:], 1, []uint64{0, 10, math.MaxUint64}},
		{l[:2], 1, []uint64{10}},
		{l[:1], 5, nil},
	}
	given := slices.Clone(l)
	for _, c := range cases {
		if got := All(c.l, c.tag); !slices.Equal(got, c.all) {
			t.Errorf("All(%v, %d) = %v, want %v", c.l, c.tag, got, c.all)
		}
		var first uint64
		if len(c.all) > 0 {
			first = c.all[0]
		}
		if got, ok := Find(c.l, c.tag); got != first || ok != (len(c.all) > 0) {
			t.Errorf("Find(%v, %d) = %d, %v", c.l, c.tag, got, ok)
		}
	}
	All(l, 1)[0] = 99
	if !slices.Equal(l, given) {
		t.Error("Find or All changes its argument")
	}
}
