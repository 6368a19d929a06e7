package ground

import (
	"iter"
	"slices"
	"strconv"

	"underpin/api"
	"underpin/exact"
)

// topName is the unknown of the top of a layer at a station.
func topName(layer, station int) string {
	return "b-" + strconv.Itoa(layer) + "-" + strconv.Itoa(station)
}

// traitName is the unknown of a trait of a layer.
func traitName(trait string, layer int) string {
	return "t-" + trait + "-" + strconv.Itoa(layer)
}

// unknowns returns the unknowns of a ground, whose stations, layers and traits have no error.
func unknowns(g api.Ground) map[string]bool {
	known := map[string]bool{}
	for layer := range g.Layers {
		if hasTop(g, layer) {
			for station := range g.Stations {
				known[topName(layer, station)] = true
			}
		}
		for _, t := range g.Traits {
			known[traitName(t.Name, layer)] = true
		}
	}
	return known
}

// nobody owns the rows that no statement says.
const nobody = -1

// told tells the rows of a ground, which has no error, with their owners.
func told(g api.Ground) iter.Seq2[int, api.Row] {
	return func(yield func(int, api.Row) bool) {
		for _, rows := range []iter.Seq[api.Row]{orderRows(g), traitRows(g)} {
			for row := range rows {
				if !yield(nobody, row) {
					return
				}
			}
		}
		for i, s := range g.Sayings {
			for row := range sayingRows(g, s) {
				if !yield(i, row) {
					return
				}
			}
		}
	}
}

// allRows returns the rows of a ground, which has no error.
func allRows(g api.Ground) []api.Row {
	var rows []api.Row
	for _, row := range told(g) {
		rows = append(rows, row)
	}
	return rows
}

// orderRows tells the rows by which layers lie in their order, from 0 to the ground's depth.
func orderRows(g api.Ground) iter.Seq[api.Row] {
	return func(yield func(api.Row) bool) {
		last := len(g.Layers) - 1
		if last == 0 {
			return
		}
		for station := range g.Stations {
			if !yield(api.Row{Terms: single(topName(1, station), "-1"), Bound: "0"}) {
				return
			}
			for layer := 1; layer < last; layer++ {
				upper, lower := api.Term{Name: topName(layer, station), Coef: "1"}, api.Term{Name: topName(layer+1, station), Coef: "-1"}
				if !yield(api.Row{Terms: []api.Term{upper, lower}, Bound: "0"}) {
					return
				}
			}
			if !yield(api.Row{Terms: single(topName(last, station), "1"), Bound: g.Depth}) {
				return
			}
		}
	}
}

// traitRows tells the rows by which traits keep their ranges.
func traitRows(g api.Ground) iter.Seq[api.Row] {
	return func(yield func(api.Row) bool) {
		for layer := range g.Layers {
			for _, t := range g.Traits {
				for row := range between(single(traitName(t.Name, layer), "1"), t.Low, t.High) {
					if !yield(row) {
						return
					}
				}
			}
		}
	}
}

// between tells the rows by which terms, which become part of a row, are at most high, and at least low.
func between(terms []api.Term, low, high api.Frac) iter.Seq[api.Row] {
	return func(yield func(api.Row) bool) {
		if !yield(api.Row{Terms: terms, Bound: high}) {
			return
		}
		var opposite []api.Term
		for _, t := range terms {
			opposite = append(opposite, api.Term{Name: t.Name, Coef: negative(t.Coef)})
		}
		yield(api.Row{Terms: opposite, Bound: negative(low)})
	}
}

// single returns one term.
func single(name string, coef api.Frac) []api.Term {
	return []api.Term{{Name: name, Coef: coef}}
}

// topTerms returns the terms of the top of a layer at a place of the ground.
func topTerms(g api.Ground, x, layer int) []api.Term {
	next, there := slices.BinarySearch(g.Stations, x)
	if there {
		return single(topName(layer, next), "1")
	}
	p, q := g.Stations[next-1], g.Stations[next]
	return []api.Term{
		{Name: topName(layer, next-1), Coef: share(q-x, q-p)},
		{Name: topName(layer, next), Coef: share(x-p, q-p)},
	}
}

// share returns a part of a whole.
func share(part, whole int) api.Frac {
	quotient, _ := exact.Div(exact.Int(int64(part)), exact.Int(int64(whole)))
	return quotient
}

// negative returns a number of a ground times -1.
func negative(a api.Frac) api.Frac {
	opposite, _ := exact.Neg(a)
	return opposite
}
