package limit

import (
	"strings"

	"underpin/api"
	"underpin/exact"
)

// maxShort is how many digits the numbers of a mesh have at most, above and below.
const maxShort = 4

// Check returns the first error of a mesh (P4.1).
func Check(m api.Mesh) api.Errno {
	for _, check := range []func(api.Mesh) api.Errno{checkSoils, checkSpots, checkFaces, checkSides} {
		if e := check(m); e != api.OK {
			return e
		}
	}
	return api.OK
}

// checkSoils returns the error of a mesh's soils.
func checkSoils(m api.Mesh) api.Errno {
	if len(m.Soils) > api.MaxSoils {
		return api.ErrLimit
	}
	for _, soil := range m.Soils {
		for _, a := range []api.Frac{soil.Cohesion, soil.Sin, soil.Cos, soil.Weight} {
			if e := checkShort(a); e != api.OK {
				return e
			}
		}
		if isBelow(soil.Cohesion, "0") || isBelow(soil.Sin, "0") || isBelow(soil.Weight, "0") || !isBelow("0", soil.Cos) {
			return api.ErrArg
		}
		if total([]api.Frac{soil.Sin, soil.Sin}, []api.Frac{soil.Cos, soil.Cos}) != "1" {
			return api.ErrArg
		}
	}
	return api.OK
}

// checkSpots returns the error of a mesh's points.
func checkSpots(m api.Mesh) api.Errno {
	if len(m.Spots) > api.MaxPoints {
		return api.ErrLimit
	}
	seen := map[api.Spot]bool{}
	for _, p := range m.Spots {
		if max(p.X, p.Y) > api.MaxCoord || min(p.X, p.Y) < -api.MaxCoord {
			return api.ErrArg
		}
		if seen[p] {
			return api.ErrTwice
		}
		seen[p] = true
	}
	return api.OK
}

// checkFaces returns the error of a mesh's triangles.
func checkFaces(m api.Mesh) api.Errno {
	if len(m.Faces) > api.MaxTriangle {
		return api.ErrLimit
	}
	if len(m.Faces) == 0 {
		return api.ErrArg
	}
	seen := map[edge]bool{}
	for _, f := range m.Faces {
		if min(f.A, f.B, f.C) < 0 || max(f.A, f.B, f.C) >= len(m.Spots) || f.Soil < 0 || f.Soil >= len(m.Soils) {
			return api.ErrNone
		}
		if twiceArea(m.Spots, f) <= 0 {
			return api.ErrArg
		}
		for _, g := range edges(f) {
			if seen[g] {
				return api.ErrTwice
			}
			seen[g] = true
		}
	}
	return api.OK
}

// checkSides returns the error of a mesh's sides.
func checkSides(m api.Mesh) api.Errno {
	if len(m.Sides) > api.MaxSides {
		return api.ErrLimit
	}
	open, seen := outer(joints(m.Faces)), map[edge]bool{}
	for _, s := range m.Sides {
		g := edge{s.A, s.B}
		switch {
		case !open[g]:
			return api.ErrNone
		case seen[g]:
			return api.ErrTwice
		}
		seen[g] = true
		for _, a := range []api.Frac{s.Press, s.Shear, s.LivePress, s.LiveShear} {
			if e := checkShort(orZero(a)); e != api.OK {
				return e
			}
		}
		if s.Fixed && (s.Press != "" || s.Shear != "" || s.LivePress != "" || s.LiveShear != "") {
			return api.ErrArg
		}
	}
	return api.OK
}

// checkShort returns the error of a number of a mesh.
func checkShort(a api.Frac) api.Errno {
	if !exact.Valid(a) {
		return api.ErrForm
	}
	above, below, _ := strings.Cut(string(a), "/")
	if len(strings.TrimPrefix(above, "-")) > maxShort || len(below) > maxShort {
		return api.ErrLimit
	}
	return api.OK
}

// isBelow tells whether one number is less than another one.
func isBelow(a, b api.Frac) bool {
	c, _ := exact.Cmp(a, b)
	return c < 0
}
