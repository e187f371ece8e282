package phdr

import (
	"math"
	"math/big"
	"math/rand"
	"strings"
	"testing"

	"graver/class"
	"graver/order"
)

var forms = []class.Form{
	{},
	{Wide: true},
	{Order: order.Order{Big: true}},
	{Order: order.Order{Big: true}, Wide: true},
}

// P7.1
func TestSize(t *testing.T) {
	for _, f := range forms {
		want := 32
		if f.Wide {
			want = 56
		}
		if got := Size(f); got != want {
			t.Errorf("Size(%v) = %d", f, got)
		}
	}
}

var counted = Segment{Type: 1, Flags: 2, Offset: 3, VAddr: 4, PAddr: 5, FileSize: 6, MemSize: 7, Align: 8}

const (
	narrowLittle = "\x01\x00\x00\x00\x03\x00\x00\x00\x04\x00\x00\x00\x05\x00\x00\x00" +
		"\x06\x00\x00\x00\x07\x00\x00\x00\x02\x00\x00\x00\x08\x00\x00\x00"
	wideLittle = "\x01\x00\x00\x00\x02\x00\x00\x00" +
		"\x03\x00\x00\x00\x00\x00\x00\x00\x04\x00\x00\x00\x00\x00\x00\x00" +
		"\x05\x00\x00\x00\x00\x00\x00\x00\x06\x00\x00\x00\x00\x00\x00\x00" +
		"\x07\x00\x00\x00\x00\x00\x00\x00\x08\x00\x00\x00\x00\x00\x00\x00"
	narrowBig = "\x00\x00\x00\x01\x00\x00\x00\x03\x00\x00\x00\x04\x00\x00\x00\x05" +
		"\x00\x00\x00\x06\x00\x00\x00\x07\x00\x00\x00\x02\x00\x00\x00\x08"
	wideBig = "\x00\x00\x00\x01\x00\x00\x00\x02" +
		"\x00\x00\x00\x00\x00\x00\x00\x03\x00\x00\x00\x00\x00\x00\x00\x04" +
		"\x00\x00\x00\x00\x00\x00\x00\x05\x00\x00\x00\x00\x00\x00\x00\x06" +
		"\x00\x00\x00\x00\x00\x00\x00\x07\x00\x00\x00\x00\x00\x00\x00\x08"
)

// P7.1, P7.2; each field alone: see record/layers_test.go.
func TestPutAndRead(t *testing.T) {
	for k, want := range []string{narrowLittle, wideLittle, narrowBig, wideBig} {
		f := forms[k]
		if got, ok := Put(f, counted); got != want || !ok {
			t.Errorf("Put(%v) = %q, %v, want %q", f, got, ok, want)
		}
		for _, more := range []string{"", "x", strings.Repeat("more", 100)} {
			if got, ok := Read(f, want+more); got != counted || !ok {
				t.Errorf("Read(%v) = %v, %v", f, got, ok)
			}
		}
		if got, ok := Read(f, want[:len(want)-1]); got != (Segment{}) || ok {
			t.Errorf("Read(%v) of too few bytes = %v, %v", f, got, ok)
		}
	}
}

const last = math.MaxUint64

// P7.4
func TestFind(t *testing.T) {
	cases := []struct {
		x    Segment
		addr uint64
		want uint64
		ok   bool
	}{
		{Segment{Offset: 100, VAddr: 1000, FileSize: 10, MemSize: 20}, 999, 0, false},
		{Segment{Offset: 100, VAddr: 1000, FileSize: 10, MemSize: 20}, 1000, 100, true},
		{Segment{Offset: 100, VAddr: 1000, FileSize: 10, MemSize: 20}, 1009, 109, true},
		{Segment{Offset: 100, VAddr: 1000, FileSize: 10, MemSize: 20}, 1010, 0, false},
		{Segment{Offset: 100, VAddr: 1000, FileSize: 10, MemSize: 20}, 0, 0, false},
		{Segment{Offset: 100, VAddr: 1000, FileSize: 10, MemSize: 20}, last, 0, false},

		// The bytes in memory are not asked for.
		{Segment{Offset: 100, VAddr: 1000, FileSize: 10}, 1009, 109, true},
		{Segment{Offset: 100, VAddr: 1000, MemSize: 10}, 1000, 0, false},
		{Segment{}, 0, 0, false},
		{Segment{FileSize: 1}, 0, 0, true},
		{Segment{Offset: 5, PAddr: 7, VAddr: 3, FileSize: 1}, 7, 0, false},

		// Addresses end at 2^64.
		{Segment{Offset: 7, VAddr: last - 1, FileSize: 10}, last - 1, 7, true},
		{Segment{Offset: 7, VAddr: last - 1, FileSize: 10}, last, 8, true},
		{Segment{Offset: 7, VAddr: last - 1, FileSize: 10}, 0, 0, false},
		{Segment{Offset: 7, VAddr: last - 1, FileSize: 10}, 1, 0, false},
		{Segment{Offset: 7, VAddr: last - 1, FileSize: last}, last - 2, 0, false},
		{Segment{FileSize: last}, last - 1, last - 1, true},
		{Segment{FileSize: last}, last, 0, false},
		{Segment{VAddr: 1, FileSize: last}, last, last - 1, true},

		// So do positions.
		{Segment{Offset: last, VAddr: 1000, FileSize: 10}, 1000, last, true},
		{Segment{Offset: last, VAddr: 1000, FileSize: 10}, 1001, 0, false},
		{Segment{Offset: last - 3, VAddr: 1000, FileSize: 10}, 1003, last, true},
		{Segment{Offset: last - 3, VAddr: 1000, FileSize: 10}, 1004, 0, false},
		{Segment{Offset: 1 << 63, FileSize: last}, 1<<63 - 1, last, true},
		{Segment{Offset: 1 << 63, FileSize: last}, 1 << 63, 0, false},

		// The sum of Offset and addr alone may be beyond them.
		{Segment{Offset: last, VAddr: last, FileSize: 1}, last, last, true},
		{Segment{Offset: last - 1, VAddr: last - 1, FileSize: 2}, last, last, true},
	}
	for _, c := range cases {
		if got, ok := c.x.Find(c.addr); got != c.want || ok != c.ok {
			t.Errorf("%+v: Find(%d) = %d, %v, want %d, %v", c.x, c.addr, got, ok, c.want, c.ok)
		}
	}
}

// P7.4
func TestHolds(t *testing.T) {
	cases := []struct {
		x       Segment
		addr, n uint64
		want    bool
	}{
		{Segment{VAddr: 1000, MemSize: 20}, 1000, 20, true},
		{Segment{VAddr: 1000, MemSize: 20}, 1000, 21, false},
		{Segment{VAddr: 1000, MemSize: 20}, 1000, 0, true},
		{Segment{VAddr: 1000, MemSize: 20}, 999, 0, false},
		{Segment{VAddr: 1000, MemSize: 20}, 999, 1, false},
		{Segment{VAddr: 1000, MemSize: 20}, 1019, 1, true},
		{Segment{VAddr: 1000, MemSize: 20}, 1019, 2, false},
		{Segment{VAddr: 1000, MemSize: 20}, 1020, 0, true},
		{Segment{VAddr: 1000, MemSize: 20}, 1020, 1, false},
		{Segment{VAddr: 1000, MemSize: 20}, 1021, 0, false},
		{Segment{VAddr: 1000, MemSize: 20}, 1021, last, false},
		{Segment{VAddr: 1000, MemSize: 20}, 1010, last - 9, false},
		{Segment{VAddr: 1000, MemSize: 20}, 1010, last, false},

		// The bytes in the file are not asked for.
		{Segment{VAddr: 1000, FileSize: 20}, 1000, 1, false},
		{Segment{VAddr: 1000, FileSize: 20}, 1000, 0, true},
		{Segment{}, 0, 0, true},
		{Segment{}, 0, 1, false},
		{Segment{}, 1, 0, false},
		{Segment{}, 1, last, false},

		// Bytes whose addresses would be 2^64 or greater count, too.
		{Segment{VAddr: last, MemSize: 5}, last, 5, true},
		{Segment{VAddr: last, MemSize: 5}, last, 6, false},
		{Segment{VAddr: last - 1, MemSize: 5}, last, 4, true},
		{Segment{VAddr: last - 1, MemSize: 5}, last, 5, false},
		{Segment{VAddr: last, MemSize: 5}, 0, 0, false},
		{Segment{VAddr: last, MemSize: last}, last, last, true},
		{Segment{MemSize: last}, 0, last, true},
		{Segment{MemSize: last}, 1, last, false},
		{Segment{MemSize: last}, 1, last - 1, true},
		{Segment{MemSize: last}, last, 0, true},
		{Segment{MemSize: last}, last, 1, false},
		{Segment{MemSize: last}, last, last, false},
	}
	for _, c := range cases {
		if got := c.x.Holds(c.addr, c.n); got != c.want {
			t.Errorf("%+v: Holds(%d, %d) = %v", c.x, c.addr, c.n, got)
		}
	}
}

func wide(n uint64) *big.Int { return new(big.Int).SetUint64(n) }

// findWide and holdsWide say P7.4 in numbers that have no greatest one.
func findWide(x Segment, addr uint64) (uint64, bool) {
	past := new(big.Int).Sub(wide(addr), wide(x.VAddr))
	at := new(big.Int).Add(wide(x.Offset), past)
	if past.Sign() < 0 || past.Cmp(wide(x.FileSize)) >= 0 || !at.IsUint64() {
		return 0, false
	}
	return at.Uint64(), true
}

func holdsWide(x Segment, addr, n uint64) bool {
	past := new(big.Int).Sub(wide(addr), wide(x.VAddr))
	end := new(big.Int).Add(past, wide(n))
	return past.Sign() >= 0 && end.Cmp(wide(x.MemSize)) <= 0
}

// P7.4, of numbers near the edges, where sums and differences may wrap round.
func TestFindAndHoldsNearEdges(t *testing.T) {
	random := rand.New(rand.NewSource(74))
	edges := []uint64{0, 1 << 31, 1 << 32, 1 << 63, last}
	pick := func() uint64 { return edges[random.Intn(len(edges))] + uint64(random.Intn(9)) - 4 }
	found, held := 0, 0
	for range 200000 {
		x := Segment{Offset: pick(), VAddr: pick(), FileSize: pick(), MemSize: pick()}
		addr, n := pick(), pick()
		at, ok := x.Find(addr)
		if want, there := findWide(x, addr); at != want || ok != there {
			t.Fatalf("%+v: Find(%d) = %d, %v, want %d, %v", x, addr, at, ok, want, there)
		}
		holds := x.Holds(addr, n)
		if want := holdsWide(x, addr, n); holds != want {
			t.Fatalf("%+v: Holds(%d, %d) = %v", x, addr, n, holds)
		}
		if ok {
			found++
		}
		if holds {
			held++
		}
	}
	if found < 1000 || held < 1000 {
		t.Error("too few of the random cases are true:", found, held)
	}
}
