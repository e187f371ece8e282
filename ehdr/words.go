package ehdr

import "graver/digits"

var types = [...]string{"NONE", "REL", "EXEC", "DYN", "CORE"}

var machines = [...]struct {
	number uint64
	name   string
}{
	{0, "none"}, {3, "386"}, {8, "MIPS"}, {20, "PowerPC"}, {21, "PowerPC64"}, {22, "S390"},
	{40, "ARM"}, {62, "X86-64"}, {183, "AArch64"}, {243, "RISC-V"}, {258, "LoongArch"},
}

// TypeName returns the word for a type of files, or the number in hexadecimal
// digits if it has none.
func TypeName(n uint64) string {
	if n < uint64(len(types)) {
		return types[n]
	}
	return digits.Hex(n)
}

// MachineName returns the name of a machine, or the number in hexadecimal
// digits if it has none.
func MachineName(n uint64) string {
	for _, m := range machines {
		if m.number == n {
			return m.name
		}
	}
	return digits.Hex(n)
}
