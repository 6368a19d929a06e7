package settle

import (
	"strings"

	"underpin/api"
	"underpin/exact"
)

const (
	maxShort = 4      // digits of a number of a bed or a route, above and below
	maxPlace = 100000 // how far a place is from 0 at most
	maxHalf  = 10000  // half the width of a trough at most
)

// CheckBed returns the first error of a bed (P5.1).
func CheckBed(b api.Bed) api.Errno {
	for _, check := range []func(api.Bed) api.Errno{checkSlices, checkRate, checkSoft, checkAdds} {
		if e := check(b); e != api.OK {
			return e
		}
	}
	return api.OK
}

// checkSlices returns the error of a bed's slices.
func checkSlices(b api.Bed) api.Errno {
	if len(b.Slices) > api.MaxSlices {
		return api.ErrLimit
	}
	if len(b.Slices) == 0 {
		return api.ErrArg
	}
	for _, a := range b.Slices {
		if e := checkFromZero(a); e != api.OK {
			return e
		}
	}
	return api.OK
}

// checkRate returns the error of how fast water leaves a bed.
func checkRate(b api.Bed) api.Errno {
	if e := checkAboveZero(b.Rate); e != api.OK {
		return e
	}
	if isLess("1/2", b.Rate) {
		return api.ErrArg
	}
	return api.OK
}

// checkSoft returns the error of how much a bed settles.
func checkSoft(b api.Bed) api.Errno {
	return checkAboveZero(b.Soft)
}

// checkAdds returns the error of the loads of a bed.
func checkAdds(b api.Bed) api.Errno {
	if len(b.Adds) > api.MaxAdds {
		return api.ErrLimit
	}
	first := 0
	for _, load := range b.Adds {
		if load.Step < first || load.Step > api.MaxSteps {
			return api.ErrArg
		}
		first = load.Step
		if e := checkFromZero(load.Pressure); e != api.OK {
			return e
		}
	}
	return api.OK
}

// checkSteps returns the error of a bed, and of a number of steps.
func checkSteps(b api.Bed, steps int) api.Errno {
	if e := CheckBed(b); e != api.OK {
		return e
	}
	if steps < 0 || steps > api.MaxSteps {
		return api.ErrArg
	}
	return api.OK
}

// CheckRoute returns the first error of a route (P5.1).
func CheckRoute(r api.Route) api.Errno {
	for _, check := range []func(api.Route) api.Errno{checkCuts, checkHouses, checkLimits} {
		if e := check(r); e != api.OK {
			return e
		}
	}
	return api.OK
}

// checkCuts returns the error of a route's excavations.
func checkCuts(r api.Route) api.Errno {
	if len(r.Cuts) > api.MaxCuts {
		return api.ErrLimit
	}
	for _, c := range r.Cuts {
		if !isTrough(c.X, c.Half) {
			return api.ErrArg
		}
		for _, a := range []api.Frac{c.Low, c.High} {
			if e := checkShort(a); e != api.OK {
				return e
			}
		}
		if isLess(c.Low, "0") || isLess(c.High, c.Low) {
			return api.ErrArg
		}
	}
	return api.OK
}

// checkHouses returns the error of a route's buildings.
func checkHouses(r api.Route) api.Errno {
	if len(r.Houses) > api.MaxHouses {
		return api.ErrLimit
	}
	seen := map[string]bool{}
	for _, h := range r.Houses {
		if e := checkName(h.Name); e != api.OK {
			return e
		}
		if seen[h.Name] {
			return api.ErrTwice
		}
		seen[h.Name] = true
		if !isPlace(h.From) || !isPlace(h.To) || h.From >= h.To {
			return api.ErrArg
		}
	}
	return api.OK
}

// checkLimits returns the error of a route's limits.
func checkLimits(r api.Route) api.Errno {
	if len(r.Limits) > api.MaxClasses {
		return api.ErrLimit
	}
	before := api.Frac("0")
	for _, limit := range r.Limits {
		if e := checkShort(limit); e != api.OK {
			return e
		}
		if !isLess(before, limit) {
			return api.ErrArg
		}
		before = limit
	}
	return api.OK
}

// checkHouse returns the error of a route, and of the number of a building.
func checkHouse(r api.Route, house int) api.Errno {
	if e := CheckRoute(r); e != api.OK {
		return e
	}
	if house < 0 || house >= len(r.Houses) {
		return api.ErrNone
	}
	return api.OK
}

// checkPlan returns the error of a route, of pads, and of a class in which they are to hold its buildings.
func checkPlan(r api.Route, pads []api.Pad, class int) api.Errno {
	if e := CheckRoute(r); e != api.OK {
		return e
	}
	if len(pads) > api.MaxPads {
		return api.ErrLimit
	}
	for _, pad := range pads {
		if !isTrough(pad.X, pad.Half) {
			return api.ErrArg
		}
		if e := checkFromZero(pad.Most); e != api.OK {
			return e
		}
	}
	if class < 0 || class >= len(r.Limits) {
		return api.ErrNone
	}
	return api.OK
}

// isPlace tells whether a number is a place.
func isPlace(x int) bool {
	return x >= -maxPlace && x <= maxPlace
}

// isTrough tells whether a trough may have a middle, and half a width.
func isTrough(x, half int) bool {
	return isPlace(x) && half >= 1 && half <= maxHalf
}

// checkFromZero returns the error of a number that is not to be below 0.
func checkFromZero(a api.Frac) api.Errno {
	if e := checkShort(a); e != api.OK {
		return e
	}
	if isLess(a, "0") {
		return api.ErrArg
	}
	return api.OK
}

// checkAboveZero returns the error of a number that is to be above 0.
func checkAboveZero(a api.Frac) api.Errno {
	if e := checkShort(a); e != api.OK {
		return e
	}
	if !isLess("0", a) {
		return api.ErrArg
	}
	return api.OK
}

// checkShort returns the error of a number of a bed or a route.
func checkShort(a api.Frac) api.Errno {
	if !exact.Valid(a) {
		return api.ErrForm
	}
	above, below, _ := strings.Cut(string(a), "/")
	if len(strings.TrimPrefix(above, "-")) > maxShort || len(below) > maxShort {
		return api.ErrLimit
	}
	return api.OK
}

// checkName returns the error of a name. Names of terms are names like all others, so that exact is asked.
func checkName(name string) api.Errno {
	_, e := exact.Sum([]api.Term{{Name: name, Coef: "1"}}, nil)
	return e
}
