package refs

import (
	"graver/api"
	"graver/check"
	"graver/model"
	"graver/symrec"
)

// Keep returns the model with only these sections.
func Keep(m model.Model, l ...int) (model.Model, api.Errno) {
	if e := check.Model(m); e != api.OK {
		return model.Model{}, e
	}
	indices, ok := number(len(m.Sections), l)
	if !ok {
		return model.Model{}, api.ErrIndex
	}
	// The sections go before the visit: the references of those that are not
	// kept do not count.
	c := m.Copy()
	c.Sections = pick(c.Sections, l)
	Visit(&c, indices.change)
	if indices.lost {
		return model.Model{}, api.ErrUsed
	}
	return c, api.OK
}

// KeepSymbols returns the model with only these symbols in a table.
func KeepSymbols(m model.Model, table int, l ...int) (model.Model, api.Errno) {
	if e := check.Model(m); e != api.OK {
		return model.Model{}, e
	}
	if !isSymTab(m, table) {
		return model.Model{}, api.ErrType
	}
	indices, ok := number(len(m.Sections[table].Syms), l)
	if !ok {
		return model.Model{}, api.ErrIndex
	}
	c := m.Copy()
	x := &c.Sections[table]
	x.Syms = pick(x.Syms, l)
	x.Info = locals(x.Syms)
	uses(&c, table, func(_ Ref, n *uint64) { indices.change(n) })
	if indices.lost {
		return model.Model{}, api.ErrUsed
	}
	return c, api.OK
}

// pick returns those of s whose indices l has.
func pick[T any](s []T, l []int) []T {
	kept := make([]T, len(l))
	for k, i := range l {
		kept[k] = s[i]
	}
	return kept
}

// locals returns how many symbols are local.
func locals(l []model.Symbol) uint64 {
	n := uint64(0)
	for _, y := range l {
		if (symrec.Symbol{Info: y.Info}).Bind() == symrec.Local {
			n++
		}
	}
	return n
}
