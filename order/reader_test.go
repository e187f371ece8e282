package order

import (
	"math"
	"testing"

	"graver/api"
)

// expect compares what a reader tells of itself.
func expect(t *testing.T, r *Reader, at uint64, err api.Errno) {
	t.Helper()
	if r.At() != at || r.Err() != err {
		t.Errorf("at %d with error %d, want %d with %d", r.At(), r.Err(), at, err)
	}
}

// P1.2
func TestReaderReadsOneBehindTheOther(t *testing.T) {
	r := bigEnd.Read("\x00\x01\x02abc\xff", 1)
	expect(t, r, 1, api.OK)
	if n := r.Next(2); n != 258 {
		t.Error(n)
	}
	expect(t, r, 3, api.OK)
	if s := r.Bytes(0); s != "" {
		t.Errorf("%q", s)
	}
	expect(t, r, 3, api.OK)
	if s := r.Bytes(3); s != "abc" {
		t.Errorf("%q", s)
	}
	expect(t, r, 6, api.OK)
	if n := r.Next(1); n != 255 {
		t.Error(n)
	}
	expect(t, r, 7, api.OK)
}

// P1.2
func TestReaderHasTheOrder(t *testing.T) {
	for _, o := range orders {
		r := o.Read("\x01\x02\x03\x04\x05\x06\x07\x08", 0)
		if r.Order != o || r.Get("\x01\x02") != o.Get("\x01\x02") {
			t.Error(r.Order)
		}
		if n := r.Next(3); n != o.Get("\x01\x02\x03") {
			t.Errorf("%v: %#x", o, n)
		}
		if n := r.Next(5); n != o.Get("\x04\x05\x06\x07\x08") {
			t.Errorf("%v: %#x", o, n)
		}
		expect(t, r, 8, api.OK)
	}
}

// P1.2
func TestReaderReadsEverySize(t *testing.T) {
	const text = "\x81\x82\x83\x84\x85\x86\x87\x88"
	for _, o := range orders {
		for size := 1; size <= 8; size++ {
			r := o.Read(text, 0)
			if n := r.Next(size); n != o.Get(text[:size]) {
				t.Errorf("%v.Next(%d) = %#x", o, size, n)
			}
			expect(t, r, uint64(size), api.OK)
		}
	}
}

// P1.2: once something was not there, nothing more is read, even if it is there.
func TestReaderStopsForGood(t *testing.T) {
	stops := map[string]func(r *Reader) bool{
		"Next beyond the end":      func(r *Reader) bool { return r.Next(4) == 0 },
		"Next of eight":            func(r *Reader) bool { return r.Next(8) == 0 },
		"Next of size 0":           func(r *Reader) bool { return r.Next(0) == 0 },
		"Next of size -1":          func(r *Reader) bool { return r.Next(-1) == 0 },
		"Next of size 9":           func(r *Reader) bool { return r.Next(9) == 0 },
		"Next of the greatest":     func(r *Reader) bool { return r.Next(math.MaxInt) == 0 },
		"Next of the least":        func(r *Reader) bool { return r.Next(math.MinInt) == 0 },
		"Bytes beyond the end":     func(r *Reader) bool { return r.Bytes(4) == "" },
		"Bytes that wrap round":    func(r *Reader) bool { return r.Bytes(math.MaxUint64) == "" },
		"Bytes that wrap round, 2": func(r *Reader) bool { return r.Bytes(math.MaxUint64-1) == "" },
		"Bytes of a negative int":  func(r *Reader) bool { return r.Bytes(1<<63) == "" },
	}
	for name, stop := range stops {
		t.Run(name, func(t *testing.T) {
			r := little.Read("abcde", 2)
			if !stop(r) {
				t.Error("something was read")
			}
			expect(t, r, 2, api.ErrShort)
			if r.Next(1) != 0 || r.Bytes(1) != "" || r.Bytes(0) != "" || r.Next(0) != 0 {
				t.Error("reading went on")
			}
			expect(t, r, 2, api.ErrShort)
		})
	}
}

// P1.2: sizes that are none stop a reader although many bytes follow.
func TestNextOfNineStopsAmongManyBytes(t *testing.T) {
	r := bigEnd.Read("0123456789abcdef", 0)
	if n := r.Next(9); n != 0 {
		t.Error(n)
	}
	expect(t, r, 0, api.ErrShort)
}

// P1.2
func TestReaderAtTheEnd(t *testing.T) {
	for _, text := range []string{"", "abc"} {
		end := uint64(len(text))
		r := little.Read(text, end)
		if s := r.Bytes(0); s != "" {
			t.Errorf("%q", s)
		}
		expect(t, r, end, api.OK)
		if n := r.Next(1); n != 0 {
			t.Error(n)
		}
		expect(t, r, end, api.ErrShort)
	}
}

// P1.2: even no bytes are not present beyond the end.
func TestReaderBeyondTheEnd(t *testing.T) {
	for _, at := range []uint64{4, 5, 1 << 31, 1 << 63, math.MaxUint64 - 1, math.MaxUint64} {
		r := little.Read("abc", at)
		expect(t, r, at, api.OK)
		if s := r.Bytes(0); s != "" {
			t.Errorf("%q", s)
		}
		expect(t, r, at, api.ErrShort)

		r = little.Read("abc", at)
		if n := r.Next(2); n != 0 {
			t.Error(n)
		}
		expect(t, r, at, api.ErrShort)

		// The sum of position and length is small again after wrapping.
		r = little.Read("abc", at)
		if s := r.Bytes(-at + 1); s != "" {
			t.Errorf("%q", s)
		}
		expect(t, r, at, api.ErrShort)
	}
}

// P1.2
func TestReadersAreApart(t *testing.T) {
	a, b := little.Read("abc", 0), little.Read("abc", 0)
	a.Bytes(2)
	expect(t, a, 2, api.OK)
	expect(t, b, 0, api.OK)
	a.Next(0)
	expect(t, b, 0, api.OK)
	if s := b.Bytes(3); s != "abc" {
		t.Errorf("%q", s)
	}
}

// P1.2
func TestNilReader(t *testing.T) {
	var r *Reader
	for range 2 {
		for _, size := range append([]int{1, 8}, wrongSizes...) {
			if n := r.Next(size); n != 0 {
				t.Error(n)
			}
		}
		for _, n := range []uint64{0, 1, math.MaxUint64} {
			if s := r.Bytes(n); s != "" {
				t.Errorf("%q", s)
			}
		}
		expect(t, r, 0, api.ErrArg)
	}
}
