package symrec

import "strconv"

// The words for bindings and kinds, at their numbers.
var (
	binds = [...]string{"LOCAL", "GLOBAL", "WEAK"}
	kinds = [...]string{"NOTYPE", "OBJECT", "FUNC", "SECTION", "FILE", "COMMON", "TLS"}
)

// BindName returns the word for a binding, or the number in decimal digits if
// it has none.
func BindName(n uint64) string {
	if n < uint64(len(binds)) {
		return binds[n]
	}
	return decimal(n)
}

// KindName returns the word for a kind, or the number in decimal digits if it
// has none.
func KindName(n uint64) string {
	if n < uint64(len(kinds)) {
		return kinds[n]
	}
	return decimal(n)
}

// PlaceName returns the word for a value of Shndx, or the number in decimal
// digits if it has none.
func PlaceName(n uint64) string {
	switch n {
	case Undef:
		return "UND"
	case Abs:
		return "ABS"
	case Common:
		return "COM"
	}
	return decimal(n)
}

func decimal(n uint64) string { return strconv.FormatUint(n, 10) }
