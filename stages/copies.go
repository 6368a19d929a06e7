package stages

import (
	"slices"

	"underpin/api"
)

// copied returns a dig in memory of its own.
func copied(d api.Dig) api.Dig {
	marks := each(d.Marks, func(m api.StageMark) api.StageMark {
		m.Proofs = copiedProofs(m.Proofs)
		return m
	})
	return api.Dig{Ground: copiedGround(d.Ground), Plan: copiedPlan(d.Plan), Marks: marks, Standing: slices.Clone(d.Standing)}
}

// copiedGround returns a ground in memory of its own.
func copiedGround(g api.Ground) api.Ground {
	g.Stations, g.Layers, g.Traits = slices.Clone(g.Stations), slices.Clone(g.Layers), slices.Clone(g.Traits)
	g.Sayings = each(g.Sayings, func(s api.Saying) api.Saying {
		s.Row = copiedRow(s.Row)
		return s
	})
	return g
}

// copiedPlan returns a plan in memory of its own.
func copiedPlan(p api.Excavation) api.Excavation {
	p.Supports = slices.Clone(p.Supports)
	p.Stages = each(p.Stages, func(s api.Stage) api.Stage {
		s.After, s.Rests, s.Takes, s.Sets = slices.Clone(s.After), slices.Clone(s.Rests), slices.Clone(s.Takes), slices.Clone(s.Sets)
		s.Demands = each(s.Demands, copiedRow)
		return s
	})
	return p
}

// copiedProofs returns proofs in memory of their own.
func copiedProofs(proofs [][]api.Frac) [][]api.Frac {
	return each(proofs, slices.Clone[[]api.Frac])
}

// copiedRow returns a row in memory of its own.
func copiedRow(row api.Row) api.Row {
	row.Terms = slices.Clone(row.Terms)
	return row
}

// each returns a list of what a function makes of the elements of a list.
func each[T any](list []T, of func(T) T) []T {
	var out []T
	for _, x := range list {
		out = append(out, of(x))
	}
	return out
}
