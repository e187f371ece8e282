package span

import (
	"math"
	"math/big"
	"testing"
)

// edges at which sums and products begin to be too great.
func edges() []uint64 {
	l := []uint64{0, 1, 2, 3, 7, 10, 12, 13, 1000, math.MaxUint64, math.MaxUint64 - 1, math.MaxUint64 - 2, math.MaxUint64 / 3}
	for _, bit := range []int{4, 16, 31, 32, 33, 62, 63} {
		l = append(l, 1<<bit, 1<<bit-1, 1<<bit+1)
	}
	return l
}

func whole(n uint64) *big.Int { return new(big.Int).SetUint64(n) }

// is tells whether a checked result is the exact one.
func is(n uint64, ok bool, exact *big.Int) bool {
	if !exact.IsUint64() {
		return n == 0 && !ok
	}
	return ok && n == exact.Uint64()
}

// P2.1
func TestAdd(t *testing.T) {
	cases := []struct {
		l    []uint64
		want uint64
		ok   bool
	}{
		{nil, 0, true},
		{[]uint64{}, 0, true},
		{[]uint64{0}, 0, true},
		{[]uint64{5}, 5, true},
		{[]uint64{math.MaxUint64}, math.MaxUint64, true},
		{[]uint64{1, 2, 3, 4}, 10, true},
		{[]uint64{1 << 63, 1<<63 - 1}, math.MaxUint64, true},
		{[]uint64{1 << 63, 1 << 63}, 0, false},
		{[]uint64{math.MaxUint64, 0, 0}, math.MaxUint64, true},
		{[]uint64{math.MaxUint64, 1}, 0, false},
		{[]uint64{1, math.MaxUint64}, 0, false},
		{[]uint64{math.MaxUint64, 1, 7}, 0, false},
		{[]uint64{1 << 63, 1 << 63, 1 << 63, 1 << 63}, 0, false},
		{[]uint64{1 << 62, 1 << 62, 1 << 62, 1 << 62}, 0, false},
		{[]uint64{1 << 62, 1 << 62, 1 << 62, 1<<62 - 1}, math.MaxUint64, true},
	}
	for _, c := range cases {
		if n, ok := Add(c.l...); n != c.want || ok != c.ok {
			t.Errorf("Add(%v) = %d, %v", c.l, n, ok)
		}
	}
}

// P2.1
func TestAddAndMulAreExact(t *testing.T) {
	for _, a := range edges() {
		for _, b := range edges() {
			if n, ok := Mul(a, b); !is(n, ok, new(big.Int).Mul(whole(a), whole(b))) {
				t.Errorf("Mul(%d, %d) = %d, %v", a, b, n, ok)
			}
			sum := new(big.Int).Add(whole(a), whole(b))
			if n, ok := Add(a, b); !is(n, ok, sum) {
				t.Errorf("Add(%d, %d) = %d, %v", a, b, n, ok)
			}
			if n, ok := (Span{At: a, Len: b}).End(); !is(n, ok, sum) {
				t.Errorf("End of {%d, %d} = %d, %v", a, b, n, ok)
			}
			for _, c := range edges() {
				if n, ok := Add(a, b, c); !is(n, ok, new(big.Int).Add(sum, whole(c))) {
					t.Errorf("Add(%d, %d, %d) = %d, %v", a, b, c, n, ok)
				}
			}
		}
	}
}

// P2.1
func TestMul(t *testing.T) {
	cases := []struct {
		a, b, want uint64
		ok         bool
	}{
		{0, math.MaxUint64, 0, true},
		{math.MaxUint64, 0, 0, true},
		{6, 7, 42, true},
		{1 << 32, 1 << 31, 1 << 63, true},
		{1 << 32, 1 << 32, 0, false},
		{1<<32 + 1, 1<<32 - 1, math.MaxUint64, true},
		{math.MaxUint64, 1, math.MaxUint64, true},
		{math.MaxUint64, math.MaxUint64, 0, false},
		{math.MaxUint64/3 + 1, 3, 0, false},
	}
	for _, c := range cases {
		if n, ok := Mul(c.a, c.b); n != c.want || ok != c.ok {
			t.Errorf("Mul(%d, %d) = %d, %v", c.a, c.b, n, ok)
		}
	}
}

// P2.1
func TestRound(t *testing.T) {
	cases := []struct {
		n, align, want uint64
		ok             bool
	}{
		{13, 8, 16, true},
		{16, 8, 16, true},
		{17, 8, 24, true},
		{13, 3, 15, true},
		{0, 8, 0, true},
		{0, 0, 0, true},
		{13, 0, 13, true},
		{13, 1, 13, true},
		{math.MaxUint64, 0, math.MaxUint64, true},
		{math.MaxUint64, 1, math.MaxUint64, true},
		{math.MaxUint64, 2, 0, false},
		{math.MaxUint64, 3, math.MaxUint64, true},
		{math.MaxUint64 - 1, 3, math.MaxUint64, true},
		{math.MaxUint64 - 1, 2, math.MaxUint64 - 1, true},
		{1, math.MaxUint64, math.MaxUint64, true},
		{math.MaxUint64, math.MaxUint64, math.MaxUint64, true},
		{math.MaxUint64, math.MaxUint64 - 1, 0, false},
		{1, 1 << 63, 1 << 63, true},
		{1<<63 + 1, 1 << 63, 0, false},
	}
	for _, c := range cases {
		if n, ok := Round(c.n, c.align); n != c.want || ok != c.ok {
			t.Errorf("Round(%d, %d) = %d, %v", c.n, c.align, n, ok)
		}
	}
}

// P2.1
func TestRoundIsExact(t *testing.T) {
	for _, n := range edges() {
		for _, align := range edges() {
			a := whole(max(align, 1))
			exact := new(big.Int).Add(whole(n), a)
			exact.Sub(exact, big.NewInt(1)).Div(exact, a).Mul(exact, a)
			if got, ok := Round(n, align); !is(got, ok, exact) {
				t.Errorf("Round(%d, %d) = %d, %v, want %d", n, align, got, ok, exact)
			}
		}
	}
}

// P2.1
func TestEnd(t *testing.T) {
	cases := []struct {
		s    Span
		want uint64
		ok   bool
	}{
		{Span{}, 0, true},
		{Span{At: 3}, 3, true},
		{Span{At: 3, Len: 4}, 7, true},
		{Span{At: math.MaxUint64}, math.MaxUint64, true},
		{Span{Len: math.MaxUint64}, math.MaxUint64, true},
		{Span{At: 1, Len: math.MaxUint64 - 1}, math.MaxUint64, true},
		{Span{At: 1, Len: math.MaxUint64}, 0, false},
		{Span{At: math.MaxUint64, Len: 1}, 0, false},
		{Span{At: math.MaxUint64, Len: math.MaxUint64}, 0, false},
	}
	for _, c := range cases {
		if n, ok := c.s.End(); n != c.want || ok != c.ok {
			t.Errorf("End of %v = %d, %v", c.s, n, ok)
		}
	}
}

// P2.2
func TestIn(t *testing.T) {
	cases := []struct {
		s    Span
		size uint64
		want bool
	}{
		{Span{}, 0, true},
		{Span{At: 1}, 0, false},
		{Span{At: 5}, 5, true},
		{Span{At: 6}, 5, false},
		{Span{At: 2, Len: 3}, 5, true},
		{Span{At: 2, Len: 3}, 6, true},
		{Span{At: 2, Len: 3}, 4, false},
		{Span{At: 2, Len: 3}, 0, false},
		{Span{Len: math.MaxUint64}, math.MaxUint64, true},
		{Span{At: 1, Len: math.MaxUint64}, math.MaxUint64, false},
		{Span{At: 1 << 63, Len: 1 << 63}, math.MaxUint64, false},
		{Span{At: 1 << 63, Len: 1 << 63}, 0, false},
		{Span{At: math.MaxUint64}, math.MaxUint64, true},
		{Span{At: math.MaxUint64, Len: 2}, 5, false},
	}
	for _, c := range cases {
		if got := c.s.In(c.size); got != c.want {
			t.Errorf("%v.In(%d) = %v", c.s, c.size, got)
		}
	}
}

// P2.2
func TestPart(t *testing.T) {
	cases := []struct {
		s    Span
		t    string
		want string
		ok   bool
	}{
		{Span{}, "", "", true},
		{Span{}, "abc", "", true},
		{Span{Len: 3}, "abc", "abc", true},
		{Span{At: 1, Len: 1}, "abc", "b", true},
		{Span{At: 1, Len: 2}, "abc", "bc", true},
		{Span{At: 3}, "abc", "", true},
		{Span{At: 4}, "abc", "", false},
		{Span{At: 1, Len: 3}, "abc", "", false},
		{Span{Len: 4}, "abc", "", false},
		{Span{At: math.MaxUint64, Len: 2}, "abc", "", false},
		{Span{At: 2, Len: math.MaxUint64}, "abc", "", false},
		{Span{At: 1 << 63, Len: 1 << 63}, "abc", "", false},
		{Span{At: 1 << 32}, "abc", "", false},
		{Span{At: 2, Len: 3}, "\x00\xff\x80\x00\xc3\x28", "\x80\x00\xc3", true},
	}
	for _, c := range cases {
		if got, ok := c.s.Part(c.t); got != c.want || ok != c.ok {
			t.Errorf("%v.Part(%q) = %q, %v", c.s, c.t, got, ok)
		}
	}
}
