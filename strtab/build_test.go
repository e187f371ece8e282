package strtab

import (
	"math/rand"
	"slices"
	"strings"
	"testing"

	"graver/api"
)

// P3.2
func TestBuild(t *testing.T) {
	cases := []struct {
		names []string
		table string
		at    []uint64
		err   api.Errno
	}{
		{nil, "\x00", nil, api.OK},
		{[]string{""}, "\x00", []uint64{0}, api.OK},
		{[]string{"", ""}, "\x00", []uint64{0, 0}, api.OK},
		{[]string{"bc", "abc"}, "\x00abc\x00", []uint64{2, 1}, api.OK},
		{[]string{"abc", "bc"}, "\x00abc\x00", []uint64{1, 2}, api.OK},
		{[]string{"a", "b", "c"}, "\x00c\x00b\x00a\x00", []uint64{5, 3, 1}, api.OK},
		// A name stands where its last index puts it.
		{[]string{"a", "b", "a"}, "\x00a\x00b\x00", []uint64{1, 3, 1}, api.OK},
		{[]string{"a", "a", "a"}, "\x00a\x00", []uint64{1, 1, 1}, api.OK},
		// The index of a suffix moves nothing.
		{[]string{"ab", "c", "b"}, "\x00c\x00ab\x00", []uint64{3, 1, 4}, api.OK},
		{[]string{"b", "abc", "bc", "", "abc", "x"}, "\x00x\x00abc\x00b\x00", []uint64{7, 3, 4, 0, 3, 1}, api.OK},
		// A suffix is looked for in the text that comes first.
		{[]string{"bc", "xbc", "abc"}, "\x00abc\x00xbc\x00", []uint64{2, 5, 1}, api.OK},
		{[]string{"abc", "xbc", "bc"}, "\x00xbc\x00abc\x00", []uint64{5, 1, 2}, api.OK},
		{[]string{"c", "bc", "zc", "abc"}, "\x00abc\x00zc\x00", []uint64{3, 2, 5, 1}, api.OK},
		{[]string{"c", "bc", "abc", "zc"}, "\x00zc\x00abc\x00", []uint64{2, 5, 4, 1}, api.OK},
		{[]string{"a", "aa", "aaa"}, "\x00aaa\x00", []uint64{3, 2, 1}, api.OK},
		// A prefix is no suffix.
		{[]string{"abc", "ab"}, "\x00ab\x00abc\x00", []uint64{4, 1}, api.OK},
		{[]string{"\xff", "\x80\xff", "\x01"}, "\x00\x01\x00\x80\xff\x00", []uint64{4, 3, 1}, api.OK},
		{[]string{"\x00"}, "", nil, api.ErrName},
		{[]string{"a\x00"}, "", nil, api.ErrName},
		{[]string{"\x00a"}, "", nil, api.ErrName},
		{[]string{"a", "b", "a\x00b"}, "", nil, api.ErrName},
		{[]string{"a\x00b", "b"}, "", nil, api.ErrName},
	}
	for _, c := range cases {
		table, at, err := Build(c.names...)
		if table != c.table || !slices.Equal(at, c.at) || err != c.err {
			t.Errorf("Build(%q) = %q, %d, %d, want %q, %d, %d", c.names, table, at, err, c.table, c.at, c.err)
		}
	}
}

// plainTable writes a table as the document tells it, each name held against
// each other one.
func plainTable(names []string) string {
	table := "\x00"
	for i, name := range slices.Backward(names) {
		suffix := slices.ContainsFunc(names, func(other string) bool {
			return other != name && strings.HasSuffix(other, name)
		})
		if name != "" && !suffix && !slices.Contains(names[i+1:], name) {
			table += name + "\x00"
		}
	}
	return table
}

// P3.2
func TestBuildOfAnyNames(t *testing.T) {
	random := rand.New(rand.NewSource(32))
	for range 20000 {
		names := make([]string, random.Intn(9))
		for i := range names {
			b := make([]byte, random.Intn(6))
			for k := range b {
				b[k] = "ab"[random.Intn(2)]
			}
			names[i] = string(b)
		}
		table, at, err := Build(names...)
		if err != api.OK || table != plainTable(names) || len(at) != len(names) || !Right(table) {
			t.Fatalf("Build(%q) = %q, %d, %d, want %q", names, table, at, err, plainTable(names))
		}
		for i, name := range names {
			if least, ok := leastAt(table, name); !ok || least != at[i] {
				t.Fatalf("Build(%q) = %q, %d: %q is at %d", names, table, at, name, least)
			}
		}
	}
}

// P3.2
func TestBuildAtTheLimit(t *testing.T) {
	long := strings.Repeat("a", api.MaxFile)
	cases := []struct {
		about string
		names []string
		size  int
		err   api.Errno
	}{
		{"one name, exactly as many bytes", []string{long[:api.MaxFile-2]}, api.MaxFile, api.OK},
		{"one name, a byte too many", []string{long[:api.MaxFile-1]}, 0, api.ErrLong},
		{"suffixes take no bytes", []string{"a", long[:api.MaxFile-2], "aa", ""}, api.MaxFile, api.OK},
		{"names that come again take no bytes", []string{long[:api.MaxFile-2], long[:api.MaxFile-2]}, api.MaxFile, api.OK},
		{"two names, exactly as many bytes", []string{"b", long[:api.MaxFile-4]}, api.MaxFile, api.OK},
		{"two names, a byte too many", []string{"b", long[:api.MaxFile-3]}, 0, api.ErrLong},
		{"a name too long ahead of a wrong one", []string{long, "\x00"}, 0, api.ErrName},
		{"a wrong name ahead of one too long", []string{"\x00", long}, 0, api.ErrName},
		{"a wrong name that is too long", []string{long + "\x00"}, 0, api.ErrName},
	}
	for _, c := range cases {
		table, at, err := Build(c.names...)
		if len(table) != c.size || err != c.err {
			t.Errorf("%s: %d bytes, %d, want %d, %d", c.about, len(table), err, c.size, c.err)
		}
		if err != api.OK && len(at) != 0 {
			t.Errorf("%s: %d", c.about, at)
		}
		for i, where := range at {
			if text, ok := Text(table, where); !ok || text != c.names[i] {
				t.Errorf("%s: name %d is not at %d", c.about, i, where)
			}
		}
	}
}

// P1: a table of many names, and one of long names that end with each other, is
// built without holding each name against each other one.
func TestBuildOfManyNames(t *testing.T) {
	var many, nested []string
	random := rand.New(rand.NewSource(5))
	for range 150000 {
		b := make([]byte, 5)
		for k := range b {
			b[k] = byte('a' + random.Intn(26))
		}
		many = append(many, string(b))
	}
	for n := range 2000 {
		nested = append(nested, strings.Repeat("a", n), strings.Repeat("a", n)+"b")
	}
	for _, names := range [][]string{many, nested} {
		table, at, err := Build(names...)
		if err != api.OK || len(at) != len(names) {
			t.Fatal(err)
		}
		for i, name := range names {
			if text, ok := Text(table, at[i]); !ok || text != name {
				t.Fatalf("%q is not at %d", name, at[i])
			}
		}
	}
}

// Rules: arguments are not modified, including their spare capacity.
func TestBuildLeavesItsArguments(t *testing.T) {
	names := []string{"c", "bc", "abc", "x", "spare"}
	Build(names[:4]...)
	if !slices.Equal(names, []string{"c", "bc", "abc", "x", "spare"}) {
		t.Error(names)
	}
}

// Rules: the result depends on nothing but the arguments.
func TestBuildAnswersTheSameAgain(t *testing.T) {
	names := []string{"main", "in", "x", "init", "it", "", "domain", "exit", "x", "t", "fini"}
	table, at, _ := Build(names...)
	for range 50 {
		if again, atAgain, _ := Build(names...); again != table || !slices.Equal(at, atAgain) {
			t.Fatalf("%q, %d and %q, %d", table, at, again, atAgain)
		}
	}
}
