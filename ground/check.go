package ground

import (
	"underpin/api"
	"underpin/exact"
)

const (
	maxPlace = 100000 // how far a station is from 0 at most
	maxTrait = 10     // bytes of a trait's name: t-NAME-K is to be a name
)

// Check returns the first error of a ground (P2.1).
func Check(g api.Ground) api.Errno {
	for _, check := range []func(api.Ground) api.Errno{checkStations, checkDepth, checkLayers, checkTraits, checkSayings} {
		if e := check(g); e != api.OK {
			return e
		}
	}
	return api.OK
}

// checkStations returns the error of a ground's stations.
func checkStations(g api.Ground) api.Errno {
	if len(g.Stations) > api.MaxStations {
		return api.ErrLimit
	}
	if len(g.Stations) == 0 {
		return api.ErrArg
	}
	for i, x := range g.Stations {
		if x < -maxPlace || x > maxPlace || i > 0 && x <= g.Stations[i-1] {
			return api.ErrArg
		}
	}
	return api.OK
}

// checkDepth returns the error of a ground's depth.
func checkDepth(g api.Ground) api.Errno {
	if e := checkNumber(g.Depth); e != api.OK {
		return e
	}
	if greater("0", g.Depth) {
		return api.ErrArg
	}
	return api.OK
}

// checkLayers returns the error of a ground's layers.
func checkLayers(g api.Ground) api.Errno {
	if len(g.Layers) > api.MaxLayers {
		return api.ErrLimit
	}
	if len(g.Layers) == 0 {
		return api.ErrArg
	}
	seen := names{}
	for _, name := range g.Layers {
		if e := seen.add(name); e != api.OK {
			return e
		}
	}
	return api.OK
}

// checkTraits returns the error of a ground's traits.
func checkTraits(g api.Ground) api.Errno {
	if len(g.Traits) > api.MaxTraits {
		return api.ErrLimit
	}
	seen := names{}
	for _, t := range g.Traits {
		if len(t.Name) > maxTrait {
			return api.ErrName
		}
		if e := seen.add(t.Name); e != api.OK {
			return e
		}
		if e := checkRange(t.Low, t.High); e != api.OK {
			return e
		}
	}
	return api.OK
}

// checkSayings returns the error of a ground's statements; all else of the ground has none.
func checkSayings(g api.Ground) api.Errno {
	if len(g.Sayings) > api.MaxSayings {
		return api.ErrLimit
	}
	known, seen := unknowns(g), names{}
	for _, s := range g.Sayings {
		if e := seen.add(s.Name); e != api.OK {
			return e
		}
		said, listed := statementOf(s)
		if !listed {
			return api.ErrArg
		}
		if e := said.check(g, known); e != api.OK {
			return e
		}
		if !sameSaying(s, said.named()) {
			return api.ErrArg
		}
	}
	return api.OK
}

// checkPlace returns the error of a ground, of a model, and of a place.
func checkPlace(g api.Ground, model []api.Value, x int) api.Errno {
	if e := Check(g); e != api.OK {
		return e
	}
	if e := checkPoint(model); e != api.OK {
		return e
	}
	if !within(g, x) {
		return api.ErrScope
	}
	return api.OK
}

// names are those that came ahead in a list.
type names map[string]bool

// add returns the error of the next name of the list.
func (n names) add(name string) api.Errno {
	if !isName(name) {
		return api.ErrName
	}
	if n[name] {
		return api.ErrTwice
	}
	n[name] = true
	return api.OK
}

// isName tells whether a text is a name. Names of terms are names like all others, so that exact can be asked.
func isName(text string) bool {
	return checkTerms([]api.Term{{Name: text, Coef: "1"}}) == api.OK
}

// checkTerms returns the error of terms. (Check of package exact would limit how many unknowns there are.)
func checkTerms(terms []api.Term) api.Errno {
	_, e := exact.Sum(terms, nil)
	return e
}

// checkPoint returns the error of a point.
func checkPoint(point []api.Value) api.Errno {
	_, e := exact.Sum(nil, point)
	return e
}

// checkNumber returns the error of a number: the same as of the Bound of a row.
func checkNumber(a api.Frac) api.Errno {
	return exact.Check([]api.Row{{Bound: a}})
}

// checkRange returns the error of a Low and a High.
func checkRange(low, high api.Frac) api.Errno {
	for _, a := range []api.Frac{low, high} {
		if e := checkNumber(a); e != api.OK {
			return e
		}
	}
	if greater(low, high) {
		return api.ErrArg
	}
	return api.OK
}

// greater tells whether one number is greater than another one.
func greater(a, b api.Frac) bool {
	c, _ := exact.Cmp(a, b)
	return c > 0
}

// within tells whether a place lies between the first and the last station.
func within(g api.Ground, x int) bool {
	return x >= g.Stations[0] && x <= g.Stations[len(g.Stations)-1]
}

// hasTop tells whether a layer has a top that is not known: the first one has none.
func hasTop(g api.Ground, layer int) bool {
	return layer >= 1 && layer < len(g.Layers)
}

// knows tells whether all unknowns of terms are known.
func knows(known map[string]bool, terms []api.Term) bool {
	for _, t := range terms {
		if !known[t.Name] {
			return false
		}
	}
	return true
}
