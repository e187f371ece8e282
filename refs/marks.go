package refs

// gone instead of a new index: what had the old one is not kept.
const gone = 1<<64 - 1

// marks tell which indices were found.
type marks []bool

// mark that n was found. What is no index is left out: a section of indices
// that has InfoLink may have any Info.
func (l marks) mark(n *uint64) {
	if *n < uint64(len(l)) {
		l[*n] = true
	}
}

// missing returns the indices that were not found, but the first one.
func (l marks) missing() []int {
	var rest []int
	for i, found := range l {
		if i > 0 && !found {
			rest = append(rest, i)
		}
	}
	return rest
}

// numbering has the new index of each old one, or gone; lost tells that one
// which is gone was found.
type numbering struct {
	fresh []uint64
	lost  bool
}

// number returns the numbering of n things of which those of l are kept, and
// true; false if l does not have their indices in ascending order from 0 on.
func number(n int, l []int) (*numbering, bool) {
	fresh := make([]uint64, n)
	for i := range fresh {
		fresh[i] = gone
	}
	last := -1
	for k, i := range l {
		if i <= last || i >= n {
			return nil, false
		}
		fresh[i] = uint64(k)
		last = i
	}
	return &numbering{fresh: fresh}, n == 0 || fresh[0] == 0
}

// change n, which was found, to its new index. What is no index stays: see mark.
func (l *numbering) change(n *uint64) {
	if *n < uint64(len(l.fresh)) {
		*n = l.fresh[*n]
		l.lost = l.lost || *n == gone
	}
}
