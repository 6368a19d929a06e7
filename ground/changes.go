package ground

import (
	"cmp"
	"slices"

	"underpin/api"
	"underpin/exact"
)

// Add returns a ground with a statement more (P2.5).
func Add(g api.Ground, s api.Saying) (api.Ground, api.Errno) {
	g = copied(g)
	g.Sayings = append(g.Sayings, copiedSaying(s))
	if e := Check(g); e != api.OK {
		return api.Ground{}, e
	}
	return g, api.OK
}

// Drop returns a ground without one of its statements (P2.5).
func Drop(g api.Ground, name string) (api.Ground, api.Errno) {
	i, e := find(g, name)
	if e != api.OK {
		return api.Ground{}, e
	}
	return copied(without(g, i)), api.OK
}

// Known reports whether a statement says nothing that the ground does not say without it (P2.6).
func Known(g api.Ground, name string) (bool, api.Errno) {
	i, e := find(g, name)
	if e != api.OK {
		return false, e
	}
	rest := allRows(without(g, i))
	for row := range sayingRows(g, g.Sayings[i]) {
		if yes, _, _, e := exact.Implied(rest, row); e != api.OK || !yes {
			return false, e
		}
	}
	return true, api.OK
}

// Quarrel returns statements that contradict each other, none of which can be left out of that (P2.6).
func Quarrel(g api.Ground) ([]string, api.Errno) {
	if e := Check(g); e != api.OK {
		return nil, e
	}
	blamed, e := contradiction(g)
	if e != api.OK {
		return nil, e
	}
	if len(blamed) == 0 {
		return nil, api.ErrNone
	}
	for i := 0; i < len(g.Sayings); {
		// a statement that the proof does not rest on is taken away without another proof
		if blamed[g.Sayings[i].Name] {
			others, e := contradiction(without(g, i))
			if e != api.OK {
				return nil, e
			}
			if len(others) == 0 {
				i++
				continue
			}
			blamed = others
		}
		g = without(g, i)
	}
	var left []string
	for _, s := range g.Sayings {
		left = append(left, s.Name)
	}
	return left, api.OK
}

// contradiction returns the names of the statements on which a proof rests that a ground, which has no error, allows no
// model: none if it allows one. (There is always a model that keeps the rows of no statement, so that a proof rests on one.)
func contradiction(g api.Ground) (map[string]bool, api.Errno) {
	none, weights, _, e := exact.Empty(allRows(g))
	if e != api.OK || !none {
		return nil, e
	}
	blamed := map[string]bool{}
	row := 0
	for owner := range told(g) {
		if owner != nobody && weights[row] != "0" {
			blamed[g.Sayings[owner].Name] = true
		}
		row++
	}
	return blamed, api.OK
}

// Compare returns the statements that differ in two grounds (P2.7).
func Compare(a, b api.Ground) ([]api.Change, api.Errno) {
	for _, g := range []api.Ground{a, b} {
		if e := Check(g); e != api.OK {
			return nil, e
		}
	}
	if !slices.Equal(a.Stations, b.Stations) || a.Depth != b.Depth || !slices.Equal(a.Layers, b.Layers) || !slices.Equal(a.Traits, b.Traits) {
		return nil, api.ErrClash
	}
	var changes []api.Change
	for _, s := range a.Sayings {
		i := place(b, s.Name)
		if i < 0 {
			changes = append(changes, api.Change{Name: s.Name, Kind: api.ChGone})
		} else if !sameSaying(s, b.Sayings[i]) {
			changes = append(changes, api.Change{Name: s.Name, Kind: api.ChOther})
		}
	}
	for _, s := range b.Sayings {
		if place(a, s.Name) < 0 {
			changes = append(changes, api.Change{Name: s.Name, Kind: api.ChNew})
		}
	}
	slices.SortFunc(changes, func(x, y api.Change) int { return cmp.Compare(x.Name, y.Name) })
	return changes, api.OK
}

// find returns Check's error, ErrNone if there is no statement of a name, or the number of that statement.
func find(g api.Ground, name string) (int, api.Errno) {
	if e := Check(g); e != api.OK {
		return 0, e
	}
	i := place(g, name)
	if i < 0 {
		return 0, api.ErrNone
	}
	return i, api.OK
}

// place returns the number of the statement of a name, or -1.
func place(g api.Ground, name string) int {
	return slices.IndexFunc(g.Sayings, func(s api.Saying) bool { return s.Name == name })
}

// without returns a ground without a statement, which shares its memory.
func without(g api.Ground, i int) api.Ground {
	g.Sayings = slices.Concat(g.Sayings[:i], g.Sayings[i+1:])
	return g
}

// copied returns a ground in memory of its own.
func copied(g api.Ground) api.Ground {
	out := api.Ground{Stations: slices.Clone(g.Stations), Depth: g.Depth, Layers: slices.Clone(g.Layers), Traits: slices.Clone(g.Traits)}
	for _, s := range g.Sayings {
		out.Sayings = append(out.Sayings, copiedSaying(s))
	}
	return out
}

// copiedSaying returns a saying in memory of its own.
func copiedSaying(s api.Saying) api.Saying {
	s.Row = copiedRow(s.Row)
	return s
}
