package rules

import (
	"slices"

	"graver/api"
	"graver/relrec"
	"graver/symrec"
)

// Locals returns ErrInfo if section i, a table of symbols with these Infos, has
// a local one behind one that is not, or its own Info is not the number of the
// local ones.
func (r *Rules) Locals(i int, infos ...uint64) api.Errno {
	n := 0
	for n < len(infos) && isLocal(infos[n]) {
		n++
	}
	if slices.ContainsFunc(infos[n:], isLocal) || r.sections[i].Info != uint64(n) {
		return api.ErrInfo
	}
	return api.OK
}

// Relocs returns ErrReloc if section i, which has these relocations, links to a
// table that does not have the symbol of one of them. Where it links to none,
// each symbol has to be 0.
func (r *Rules) Relocs(i int, l ...relrec.Reloc) api.Errno {
	symbols := uint64(1)
	if link := r.sections[i].Link; link != 0 {
		symbols = r.sections[link].Items
	}
	for _, x := range l {
		if x.Sym >= symbols {
			return api.ErrReloc
		}
	}
	return api.OK
}

// Members returns ErrGroup if a number of section i, a group of these numbers,
// is not the index of another section. The first one tells something else.
func (r *Rules) Members(i int, l ...uint64) api.Errno {
	for _, n := range l[1:] {
		if n == 0 || n == uint64(i) || !r.IsSection(n) {
			return api.ErrGroup
		}
	}
	return api.OK
}

func isLocal(info uint64) bool { return symrec.Symbol{Info: info}.Bind() == symrec.Local }
