package span

import (
	"math"
	"math/rand"
	"slices"
	"testing"
)

const top = math.MaxUint64

// P2.3
func TestGaps(t *testing.T) {
	cases := []struct {
		size uint64
		l    []Span
		want []Span
	}{
		{0, nil, nil},
		{0, []Span{{0, 3}}, nil},
		{10, nil, []Span{{0, 10}}},
		{10, []Span{{2, 3}, {4, 2}}, []Span{{0, 2}, {6, 4}}},
		{10, []Span{{4, 2}, {2, 3}, {9, 1 << 63}}, []Span{{0, 2}, {6, 3}}},
		{10, []Span{{0, 10}}, nil},
		{10, []Span{{0, 3}, {3, 7}}, nil},
		{10, []Span{{3, 7}, {0, 3}}, nil},
		{10, []Span{{0, 9}}, []Span{{9, 1}}},
		{10, []Span{{1, 9}}, []Span{{0, 1}}},
		{10, []Span{{1, 8}, {2, 1}}, []Span{{0, 1}, {9, 1}}},
		{10, []Span{{10, 5}, {20, 1}}, []Span{{0, 10}}},
		{10, []Span{{8, 20}}, []Span{{0, 8}}},
		{10, []Span{{5, 0}}, []Span{{0, 10}}},
		{10, []Span{{0, 0}, {10, 0}, {3, 0}, {4, 1}}, []Span{{0, 4}, {5, 5}}},
		{10, []Span{{5, top}}, []Span{{0, 5}}},
		{10, []Span{{5, top - 4}}, []Span{{0, 5}}},
		{10, []Span{{top, top}}, []Span{{0, 10}}},
		{10, []Span{{1, top}, {0, 1}}, nil},
		{top, nil, []Span{{0, top}}},
		{top, []Span{{0, top}}, nil},
		{top, []Span{{1, top}}, []Span{{0, 1}}},
		{top, []Span{{top - 1, 1}}, []Span{{0, top - 1}}},
		{top, []Span{{top - 2, 1}}, []Span{{0, top - 2}, {top - 1, 1}}},
		{top, []Span{{top, 1}}, []Span{{0, top}}},
		{top, []Span{{top - 1, 2}, {top - 1, 7}}, []Span{{0, top - 1}}},
	}
	for _, c := range cases {
		if got := Gaps(c.size, c.l...); !slices.Equal(got, c.want) {
			t.Errorf("Gaps(%d, %v) = %v, want %v", c.size, c.l, got, c.want)
		}
	}
}

// P2.3
func TestClash(t *testing.T) {
	cases := []struct {
		l    []Span
		want bool
	}{
		{nil, false},
		{[]Span{{3, 2}}, false},
		{[]Span{{3, 2}, {1, 3}}, true},
		{[]Span{{1, 3}, {3, 2}}, true},
		{[]Span{{3, 2}, {1, 2}, {4, 0}}, false},
		{[]Span{{3, 2}, {5, 2}, {1, 2}}, false},
		{[]Span{{0, 10}, {4, 0}, {4, 1}}, true},
		{[]Span{{0, 10}, {4, 0}}, false},
		{[]Span{{4, 0}, {4, 0}}, false},
		{[]Span{{0, 10}, {2, 0}, {20, 5}, {9, 1}}, true},
		{[]Span{{7, 1}, {7, 1}}, true},
		{[]Span{{0, 100}, {1, 1}, {50, 1}}, true},
		{[]Span{{5, top}, {4, 1}}, false},
		{[]Span{{5, top}, {5, 1}}, true},
		{[]Span{{5, top}, {0, 1}}, false},
		{[]Span{{5, top}, {top, 1}}, true},
		{[]Span{{top, 1}, {top, 1}}, true},
		{[]Span{{top, 1}, {top - 1, 1}}, false},
		{[]Span{{top, 5}, {0, 3}}, false},
		{[]Span{{1 << 63, 1 << 63}, {top, top}}, true},
		{[]Span{{0, top}, {top, 1}}, false},
	}
	for _, c := range cases {
		if got := Clash(c.l...); got != c.want {
			t.Errorf("Clash(%v) = %v", c.l, got)
		}
	}
}

// P2.4
func TestUnion(t *testing.T) {
	cases := []struct{ l, want []Span }{
		{nil, nil},
		{[]Span{{3, 2}}, []Span{{3, 2}}},
		{[]Span{{3, 0}, {0, 0}}, nil},
		{[]Span{{6, 2}, {1, 2}}, []Span{{1, 2}, {6, 2}}},
		{[]Span{{1, 2}, {3, 2}}, []Span{{1, 4}}},
		{[]Span{{3, 2}, {1, 2}}, []Span{{1, 4}}},
		{[]Span{{1, 2}, {4, 2}}, []Span{{1, 2}, {4, 2}}},
		{[]Span{{1, 2}, {3, 0}, {4, 2}}, []Span{{1, 2}, {4, 2}}},
		{[]Span{{1, 9}, {2, 3}, {11, 1}}, []Span{{1, 9}, {11, 1}}},
		{[]Span{{1, 9}, {2, 3}, {10, 1}}, []Span{{1, 10}}},
		{[]Span{{1, 1}, {1, 5}, {1, 3}}, []Span{{1, 5}}},
		{[]Span{{5, top}}, nil},
		{[]Span{{5, top}, {4, 1}, {5, 1}}, []Span{{4, 2}}},
		{[]Span{{0, 1}, {0, top - 1}, {top - 1, 1}}, []Span{{0, top}}},
		{[]Span{{0, top}, {top, 1}}, []Span{{0, top}}},
		{[]Span{{top, 0}, {top - 1, 1}}, []Span{{top - 1, 1}}},
		{[]Span{{top - 1, 2}}, nil},
	}
	for _, c := range cases {
		if got := Union(c.l...); !slices.Equal(got, c.want) {
			t.Errorf("Union(%v) = %v, want %v", c.l, got, c.want)
		}
	}
}

// P2.4
func TestCommon(t *testing.T) {
	cases := []struct {
		a, b, want Span
		ok         bool
	}{
		{Span{1, 4}, Span{3, 4}, Span{3, 2}, true},
		{Span{1, 9}, Span{3, 4}, Span{3, 4}, true},
		{Span{1, 4}, Span{1, 4}, Span{1, 4}, true},
		{Span{1, 4}, Span{1, 3}, Span{1, 3}, true},
		{Span{1, 4}, Span{4, 4}, Span{4, 1}, true},
		{Span{1, 4}, Span{5, 4}, Span{}, false},
		{Span{1, 4}, Span{8, 4}, Span{}, false},
		{Span{1, 4}, Span{2, 0}, Span{}, false},
		{Span{2, 0}, Span{2, 0}, Span{}, false},
		{Span{}, Span{}, Span{}, false},
		{Span{0, top}, Span{top - 1, 1}, Span{top - 1, 1}, true},
		{Span{0, top}, Span{0, top}, Span{0, top}, true},
		{Span{1, 4}, Span{1, top}, Span{}, false},
		{Span{1, top}, Span{1, top}, Span{}, false},
		{Span{top, 1}, Span{top, 1}, Span{}, false},
		{Span{0, 10}, Span{top, 5}, Span{}, false},
	}
	for _, c := range cases {
		for _, pair := range [][2]Span{{c.a, c.b}, {c.b, c.a}} {
			if got, ok := Common(pair[0], pair[1]); got != c.want || ok != c.ok {
				t.Errorf("Common(%v, %v) = %v, %v", pair[0], pair[1], got, ok)
			}
		}
	}
}

func holds(s Span, b uint64) bool { return b >= s.At && b-s.At < s.Len }

func count(l []Span, b uint64) int {
	n := 0
	for _, s := range l {
		if holds(s, b) {
			n++
		}
	}
	return n
}

func ended(l []Span) []Span {
	var out []Span
	for _, s := range l {
		if _, ok := s.End(); ok {
			out = append(out, s)
		}
	}
	return out
}

// fewest tells whether spans are ascending, not empty, and do not even touch:
// then no fewer spans have the same bytes.
func fewest(l []Span) bool {
	for i, s := range l {
		end, ok := s.End()
		if !ok || s.Len == 0 || i+1 < len(l) && end >= l[i+1].At {
			return false
		}
	}
	return true
}

// compare holds what the functions answer against each byte of a window, in
// which all spans begin.
func compare(t *testing.T, base uint64, width int, size uint64, l []Span) {
	t.Helper()
	gaps, union, clash := Gaps(size, l...), Union(l...), false
	for i := range width {
		b := base + uint64(i)
		n := count(l, b)
		clash = clash || n > 1
		if want := n == 0 && b < size; want != (count(gaps, b) == 1) {
			t.Fatalf("Gaps(%d, %v) = %v at %d", size, l, gaps, b)
		}
		if want := count(ended(l), b) > 0; want != (count(union, b) == 1) {
			t.Fatalf("Union(%v) = %v at %d", l, union, b)
		}
	}
	if !fewest(gaps) || !fewest(union) {
		t.Fatalf("Gaps(%d, %v) = %v, Union %v: not the fewest", size, l, gaps, union)
	}
	if len(gaps) > 0 {
		if end, _ := gaps[len(gaps)-1].End(); end > size {
			t.Fatalf("Gaps(%d, %v) = %v: beyond the size", size, l, gaps)
		}
	}
	if Clash(l...) != clash {
		t.Fatalf("Clash(%v) = %v", l, !clash)
	}
	compareCommon(t, base, width, l)
}

func compareCommon(t *testing.T, base uint64, width int, l []Span) {
	t.Helper()
	for i := 1; i < len(l); i++ {
		pair := l[i-1 : i+1]
		got, ok := Common(pair[0], pair[1])
		both := len(ended(pair)) == 2
		some := false
		for i := range width {
			b := base + uint64(i)
			want := both && count(pair, b) == 2
			some = some || want
			if want != holds(got, b) {
				t.Fatalf("Common(%v) = %v at %d", pair, got, b)
			}
		}
		if ok != some || !ok && got != (Span{}) {
			t.Fatalf("Common(%v) = %v, %v", pair, got, ok)
		}
	}
}

// P2.3, P2.4: at the beginning of all bytes, and at their end, where spans have
// no end.
func TestSetsByteByByte(t *testing.T) {
	const width = 16
	r := rand.New(rand.NewSource(1))
	for _, base := range []uint64{0, top - width + 1} {
		for range 20000 {
			l := make([]Span, r.Intn(6))
			for i := range l {
				l[i] = Span{At: base + uint64(r.Intn(width)), Len: uint64(r.Intn(7))}
				if base == 0 {
					l[i].Len = min(l[i].Len, width-l[i].At)
				}
				if r.Intn(12) == 0 {
					l[i].Len = top
				}
			}
			compare(t, base, width, base+uint64(r.Intn(width)), l)
		}
	}
}

// Rules: arguments are not modified, including their spare capacity, and
// results are newly allocated.
func TestSetsLeaveTheirArguments(t *testing.T) {
	l := []Span{{9, 2}, {4, 0}, {1, 2}, {2, 5}, {8, 8}, {0, 1}}
	before := slices.Clone(l)
	Gaps(20, l[:4]...)
	Clash(l[:4]...)
	union := Union(l[:4]...)
	if !slices.Equal(l, before) {
		t.Error(l)
	}
	for i := range union {
		union[i] = Span{77, 77}
	}
	if !slices.Equal(l, before) {
		t.Error("the union shares memory with the spans:", l)
	}
}

// P1: many spans end in short time.
func TestManySpans(t *testing.T) {
	const n = 200000
	l := make([]Span, n)
	for i := range l {
		l[i] = Span{At: uint64(2 * (n - 1 - i)), Len: 1}
	}
	if Clash(l...) || len(Union(l...)) != n || len(Gaps(2*n, l...)) != n {
		t.Error("spans that are apart")
	}
}
