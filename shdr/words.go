package shdr

import (
	"strings"

	"graver/digits"
)

// types holds the words for types at their numbers; 12 and 13 have none.
var types = [...]string{
	"NULL", "PROGBITS", "SYMTAB", "STRTAB", "RELA", "HASH", "DYNAMIC", "NOTE", "NOBITS", "REL", "SHLIB", "DYNSYM",
	14: "INIT_ARRAY", 15: "FINI_ARRAY", 16: "PREINIT_ARRAY", 17: "GROUP", 18: "SYMTAB_SHNDX",
}

// letters holds the letters of flags at the numbers of their bits; a space
// stands for a bit that has none.
const letters = "WAX MSILOGTC"

// TypeName returns the word for a type of sections, or the number in
// hexadecimal digits if it has none.
func TypeName(n uint64) string {
	if n < uint64(len(types)) && types[n] != "" {
		return types[n]
	}
	return digits.Hex(n)
}

// FlagLetters returns the letters of the flags that are set, and behind them
// the number of those that have no letter, if there are some.
func FlagLetters(n uint64) string {
	var b strings.Builder
	for bit := range len(letters) {
		flag := uint64(1) << bit
		if n&flag != 0 && letters[bit] != ' ' {
			b.WriteByte(letters[bit])
			n &^= flag
		}
	}
	return b.String() + digits.Rest(n)
}
