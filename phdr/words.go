package phdr

import "graver/digits"

// types holds the words for types at their numbers.
var types = [...]string{"NULL", "LOAD", "DYNAMIC", "INTERP", "NOTE", "SHLIB", "PHDR", "TLS"}

// letters holds the letters of flags, the greatest flag first.
const letters = "RWX"

// TypeName returns the word for a type of segments, or the number in
// hexadecimal digits if it has none.
func TypeName(n uint64) string {
	if n < uint64(len(types)) {
		return types[n]
	}
	return digits.Hex(n)
}

// Letters returns the letters of the flags, with - for each that is not set,
// and behind them the number of those that have no letter, if there are some.
func Letters(flags uint64) string {
	text := []byte(letters)
	for k := range text {
		flag := uint64(1) << (len(text) - 1 - k)
		if flags&flag == 0 {
			text[k] = '-'
		}
		flags &^= flag
	}
	return string(text) + digits.Rest(flags)
}
