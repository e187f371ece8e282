// Package digits writes numbers that have no name or letter of their own.
package digits

import "strconv"

// Hex returns 0x and n in lower-case hexadecimal digits without leading zeros.
func Hex(n uint64) string { return "0x" + strconv.FormatUint(n, 16) }

// Rest returns what follows the letters of flags, n being the number formed by
// the flags that have none: + and its Hex, or an empty string for 0.
func Rest(n uint64) string {
	if n == 0 {
		return ""
	}
	return "+" + Hex(n)
}
