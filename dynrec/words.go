package dynrec

import "graver/digits"

// The words for tags, at their numbers.
var tags = [...]string{
	"NULL", "NEEDED", "PLTRELSZ", "PLTGOT", "HASH", "STRTAB", "SYMTAB", "RELA",
	"RELASZ", "RELAENT", "STRSZ", "SYMENT", "INIT", "FINI", "SONAME", "RPATH",
	"SYMBOLIC", "REL", "RELSZ", "RELENT", "PLTREL", "DEBUG", "TEXTREL", "JMPREL",
	"BIND_NOW",
}

// TagName returns the word for a tag, or its number in hexadecimal digits if it
// has none.
func TagName(n uint64) string {
	if n < uint64(len(tags)) {
		return tags[n]
	}
	return digits.Hex(n)
}
