package strtab

import (
	"math"
	"math/rand"
	"slices"
	"strings"
	"testing"

	"graver/api"
)

// anyTexts returns tables and strings that are none, with few different bytes,
// so that texts come again and end with each other.
func anyTexts() []string {
	l := []string{"", "\x00", "\x00\x00", "a", "a\x00", "\x00a", "\x00a\x00", "\x00ab\x00b\x00\x00"}
	random := rand.New(rand.NewSource(3))
	for range 3000 {
		b := make([]byte, random.Intn(14))
		for i := range b {
			b[i] = "\x00ab"[random.Intn(3)]
		}
		l = append(l, string(b), "\x00"+string(b)+"\x00")
	}
	return l
}

// textAt goes byte by byte, as the document tells it.
func textAt(table string, at int) (string, bool) {
	var text []byte
	for ; at < len(table); at++ {
		if table[at] == 0 {
			return string(text), true
		}
		text = append(text, table[at])
	}
	return "", false
}

// leastAt tries one offset behind the other.
func leastAt(table, name string) (uint64, bool) {
	for at := range len(table) {
		if text, ok := textAt(table, at); ok && text == name {
			return uint64(at), true
		}
	}
	return 0, false
}

// P3.1
func TestRight(t *testing.T) {
	cases := map[string]bool{
		"":                     true,
		"\x00":                 true,
		"\x00\x00":             true,
		"\x00\x00\x00":         true,
		"\x00abc\x00":          true,
		"\x00abc\x00\x00d\x00": true,
		"a":                    false,
		"abc\x00":              false,
		"\x00abc":              false,
		"a\x00b":               false,
		"\x00a\x00b":           false,
		"0abc0":                false,
	}
	for table, want := range cases {
		if got := Right(table); got != want {
			t.Errorf("Right(%q) = %v", table, got)
		}
	}
}

// P3.1
func TestText(t *testing.T) {
	cases := []struct {
		table string
		at    uint64
		want  string
		ok    bool
	}{
		{"\x00abc\x00", 0, "", true},
		{"\x00abc\x00", 1, "abc", true},
		{"\x00abc\x00", 3, "c", true},
		{"\x00abc\x00", 4, "", true},
		{"\x00abc\x00", 5, "", false},
		{"\x00abc\x00", 6, "", false},
		{"\x00abc\x00", 1 << 32, "", false},
		{"\x00abc\x00", 1<<32 + 1, "", false},
		{"\x00abc\x00", 1 << 63, "", false},
		{"\x00abc\x00", math.MaxUint64, "", false},
		{"\x00abc\x00", math.MaxUint64 - 3, "", false},
		{"\x00ab\x00c\x00", 2, "b", true},
		{"", 0, "", false},
		{"", 1, "", false},
		{"abc", 0, "", false},
		{"abc", 2, "", false},
		{"abc", 3, "", false},
		// What is no table has texts, too, where a byte 0 follows.
		{"abc\x00de", 0, "abc", true},
		{"abc\x00de", 3, "", true},
		{"abc\x00de", 4, "", false},
		{"\xff\xfe\x00", 0, "\xff\xfe", true},
	}
	for _, c := range cases {
		if got, ok := Text(c.table, c.at); got != c.want || ok != c.ok {
			t.Errorf("Text(%q, %d) = %q, %v, want %q, %v", c.table, c.at, got, ok, c.want, c.ok)
		}
	}
}

// P3.1
func TestTextAtEveryOffset(t *testing.T) {
	for _, table := range anyTexts() {
		for at := range len(table) + 2 {
			want, wantOK := textAt(table, at)
			if got, ok := Text(table, uint64(at)); got != want || ok != wantOK {
				t.Fatalf("Text(%q, %d) = %q, %v, want %q, %v", table, at, got, ok, want, wantOK)
			}
		}
	}
}

// P3.3
func TestAll(t *testing.T) {
	cases := []struct {
		table string
		want  []string
	}{
		{"", nil},
		{"\x00", []string{""}},
		{"\x00\x00", []string{"", ""}},
		{"\x00abc\x00", []string{"", "abc"}},
		{"\x00abc\x00\x00d\x00", []string{"", "abc", "", "d"}},
		{"\x00abc\x00bc\x00abc\x00", []string{"", "abc", "bc", "abc"}},
		{"\x00\xff\x00", []string{"", "\xff"}},
		{"abc", nil},
		{"abc\x00", nil},
		{"\x00abc", nil},
		{"a\x00b\x00c", nil},
	}
	for _, c := range cases {
		if got := All(c.table); !slices.Equal(got, c.want) {
			t.Errorf("All(%q) = %q, want %q", c.table, got, c.want)
		}
	}
}

// P3.3
func TestAllTextsMakeTheTable(t *testing.T) {
	for _, table := range anyTexts() {
		l := All(table)
		if !Right(table) {
			if len(l) != 0 {
				t.Fatalf("All(%q) = %q", table, l)
			}
			continue
		}
		var b strings.Builder
		for i, text := range l {
			if strings.Contains(text, "\x00") || i == 0 && text != "" {
				t.Fatalf("All(%q) = %q", table, l)
			}
			b.WriteString(text + "\x00")
		}
		if b.String() != table {
			t.Fatalf("All(%q) = %q", table, l)
		}
	}
}

// P3.4
func TestFind(t *testing.T) {
	cases := []struct {
		table, name string
		want        uint64
		ok          bool
	}{
		{"\x00abc\x00", "abc", 1, true},
		{"\x00abc\x00", "bc", 2, true},
		{"\x00abc\x00", "c", 3, true},
		{"\x00abc\x00", "", 0, true},
		{"\x00abc\x00", "ab", 0, false},
		{"\x00abc\x00", "b", 0, false},
		{"\x00abc\x00", "aabc", 0, false},
		{"\x00abc\x00bc\x00", "bc", 2, true},
		{"\x00bc\x00abc\x00", "bc", 1, true},
		{"\x00bcd\x00abc\x00bc\x00", "bc", 6, true},
		{"\x00aaa\x00", "a", 3, true},
		// A text ends at the first byte 0, so that no name has one.
		{"\x00a\x00b\x00", "a\x00b", 0, false},
		{"\x00a\x00b\x00", "a\x00", 0, false},
		{"\x00a\x00b\x00", "\x00", 0, false},
		{"\x00\x00", "\x00", 0, false},
		{"", "", 0, false},
		{"", "a", 0, false},
		{"abc", "abc", 0, false},
		{"abc", "", 0, false},
		// What is no table has texts, too, where a byte 0 follows.
		{"abc\x00c", "c", 2, true},
		{"abc\x00", "", 3, true},
		{"abc\x00d", "d", 0, false},
	}
	for _, c := range cases {
		if got, ok := Find(c.table, c.name); got != c.want || ok != c.ok {
			t.Errorf("Find(%q, %q) = %d, %v, want %d, %v", c.table, c.name, got, ok, c.want, c.ok)
		}
	}
}

// P3.4
func TestFindIsTheLeastOffset(t *testing.T) {
	names := []string{"", "a", "b", "ab", "ba", "aa", "bab", "abab", "\x00", "a\x00", "a\x00b", "c"}
	for _, table := range anyTexts() {
		for _, name := range names {
			want, wantOK := leastAt(table, name)
			if got, ok := Find(table, name); got != want || ok != wantOK {
				t.Fatalf("Find(%q, %q) = %d, %v, want %d, %v", table, name, got, ok, want, wantOK)
			}
		}
	}
}

// P3.4
func TestAdd(t *testing.T) {
	cases := []struct {
		table, name string
		want        string
		at          uint64
		err         api.Errno
	}{
		{"", "", "\x00", 0, api.OK},
		{"", "abc", "\x00abc\x00", 1, api.OK},
		{"\x00", "", "\x00", 0, api.OK},
		{"\x00", "abc", "\x00abc\x00", 1, api.OK},
		{"\x00abc\x00", "abc", "\x00abc\x00", 1, api.OK},
		{"\x00abc\x00", "bc", "\x00abc\x00", 2, api.OK},
		{"\x00abc\x00", "", "\x00abc\x00", 0, api.OK},
		{"\x00abc\x00", "ab", "\x00abc\x00ab\x00", 5, api.OK},
		{"\x00abc\x00", "xabc", "\x00abc\x00xabc\x00", 5, api.OK},
		{"\x00\x00", "a", "\x00\x00a\x00", 2, api.OK},
		{"\x00abc\x00bc\x00", "bc", "\x00abc\x00bc\x00", 2, api.OK},
		{"abc", "abc", "", 0, api.ErrData},
		{"abc\x00", "abc", "", 0, api.ErrData},
		{"\x00abc", "", "", 0, api.ErrData},
		{"\x00abc\x00", "a\x00", "", 0, api.ErrName},
		{"\x00a\x00b\x00", "a\x00b", "", 0, api.ErrName},
		{"\x00\x00", "\x00", "", 0, api.ErrName},
		{"", "\x00", "", 0, api.ErrName},
		{"abc", "\x00", "", 0, api.ErrData},
	}
	for _, c := range cases {
		if got, at, err := Add(c.table, c.name); got != c.want || at != c.at || err != c.err {
			t.Errorf("Add(%q, %q) = %q, %d, %d, want %q, %d, %d", c.table, c.name, got, at, err, c.want, c.at, c.err)
		}
	}
}

// P3.4
func TestAddToAnyTable(t *testing.T) {
	for _, table := range anyTexts() {
		for _, name := range []string{"", "a", "ab", "bba", "c"} {
			got, at, err := Add(table, name)
			if !Right(table) {
				if got != "" || at != 0 || err != api.ErrData {
					t.Fatalf("Add(%q, %q) = %q, %d, %d", table, name, got, at, err)
				}
				continue
			}
			least, ok := leastAt(got, name)
			if err != api.OK || !Right(got) || !ok || least != at || !strings.HasPrefix(got, table) {
				t.Fatalf("Add(%q, %q) = %q, %d, %d", table, name, got, at, err)
			}
		}
	}
}

// P3.4
func TestAddAtTheLimit(t *testing.T) {
	full := "\x00" + strings.Repeat("a", api.MaxFile-2) + "\x00"
	less := "\x00" + strings.Repeat("a", api.MaxFile-5) + "\x00"
	beyond := "\x00" + strings.Repeat("a", api.MaxFile) + "\x00"
	long := strings.Repeat("b", api.MaxFile)
	cases := []struct {
		about, table, name string
		size               int
		at                 uint64
		err                api.Errno
	}{
		{"exactly as many bytes", less, "bc", api.MaxFile, api.MaxFile - 3, api.OK},
		{"one byte too many", less, "bcd", 0, 0, api.ErrLong},
		{"a full table", full, "b", 0, 0, api.ErrLong},
		{"a full table that has the name", full, "aa", api.MaxFile, api.MaxFile - 3, api.OK},
		{"a full table and the empty name", full, "", api.MaxFile, 0, api.OK},
		{"a table beyond the limit that has the name", beyond, "a", api.MaxFile + 2, api.MaxFile, api.OK},
		{"a table beyond the limit", beyond, "b", 0, 0, api.ErrLong},
		{"a table beyond the limit, a wrong name", beyond, "\x00", 0, 0, api.ErrName},
		{"the longest name", "", long[:api.MaxFile-2], api.MaxFile, 1, api.OK},
		{"a name too long", "", long[:api.MaxFile-1], 0, 0, api.ErrLong},
		{"a name too long behind a byte 0", "\x00", long[:api.MaxFile-1], 0, 0, api.ErrLong},
		{"a name far too long", "", long, 0, 0, api.ErrLong},
	}
	for _, c := range cases {
		if got, at, err := Add(c.table, c.name); len(got) != c.size || at != c.at || err != c.err {
			t.Errorf("%s: %d bytes, %d, %d, want %d, %d, %d", c.about, len(got), at, err, c.size, c.at, c.err)
		}
	}
}
