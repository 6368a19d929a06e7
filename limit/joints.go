package limit

import "underpin/api"

// edge is the way from one point of a mesh to another one.
type edge struct{ from, to int }

// back is the edge the other way round.
func (g edge) back() edge {
	return edge{g.to, g.from}
}

// edges returns the edges of a triangle.
func edges(f api.Face) [3]edge {
	return [3]edge{{f.A, f.B}, {f.B, f.C}, {f.C, f.A}}
}

// joints returns the joints of triangles.
func joints(faces []api.Face) []api.Joint {
	triangles := map[edge]int{}
	for k, f := range faces {
		for _, g := range edges(f) {
			triangles[g] = k
		}
	}
	var all []api.Joint
	for k, f := range faces {
		for _, g := range edges(f) {
			right, inner := triangles[g.back()]
			switch {
			case !inner:
				all = append(all, api.Joint{A: g.from, B: g.to, Left: k, Right: -1})
			case right > k:
				all = append(all, api.Joint{A: g.from, B: g.to, Left: k, Right: right})
			}
		}
	}
	return all
}

// outer returns the edges of joints that have a triangle at one side alone.
func outer(joints []api.Joint) map[edge]bool {
	found := map[edge]bool{}
	for _, j := range joints {
		if j.Right < 0 {
			found[edge{j.A, j.B}] = true
		}
	}
	return found
}

// twiceArea returns twice the area of a triangle, which is above 0 if its points are counterclockwise.
func twiceArea(spots []api.Spot, f api.Face) int {
	a, b, c := spots[f.A], spots[f.B], spots[f.C]
	return (b.X-a.X)*(c.Y-a.Y) - (c.X-a.X)*(b.Y-a.Y)
}

// pair is a number in X, and one in Y.
type pair [2]api.Frac

// X and Y in a pair.
const (
	inX = iota
	inY
)

// seam is a joint, with all that the programs need of it.
type seam struct {
	api.Joint
	number  int
	along   pair        // from A to B
	heights [2]api.Frac // of A and B
	side    api.Side    // zero if there is none
}

// slides tells whether the seam is a sliding joint.
func (s seam) slides() bool {
	return s.Right >= 0 || s.side.Fixed
}

// dead returns the force on the seam that is always there; 0 if the seam is free.
func (s seam) dead() pair {
	return s.force(s.side.Press, s.side.Shear)
}

// live returns the force on the seam that is to be multiplied by the load factor.
func (s seam) live() pair {
	return s.force(s.side.LivePress, s.side.LiveShear)
}

// force returns the force of a pressure and a shear on the whole length of the seam.
func (s seam) force(press, shear api.Frac) pair {
	press, shear = orZero(press), orZero(shear)
	x := total([]api.Frac{shear, s.along[inX]}, []api.Frac{"-1", press, s.along[inY]})
	y := total([]api.Frac{shear, s.along[inY]}, []api.Frac{press, s.along[inX]})
	return pair{x, y}
}

// party is a triangle at a seam, and the sign with which it counts there.
type party struct {
	face int
	sign api.Frac
}

// parties returns the triangles at the seam: Left counts once, Right minus once.
func (s seam) parties() []party {
	both := []party{{s.Left, "1"}}
	if s.Right >= 0 {
		both = append(both, party{s.Right, "-1"})
	}
	return both
}

// section is a mesh without errors.
type section struct {
	api.Mesh
	joints []api.Joint
	sides  map[edge]api.Side
}

// sectionOf finds the joints of a mesh, and what its sides say of them.
func sectionOf(m api.Mesh) section {
	s := section{Mesh: m, joints: joints(m.Faces), sides: map[edge]api.Side{}}
	for _, side := range m.Sides {
		s.sides[edge{side.A, side.B}] = side
	}
	return s
}

// walk shows all joints, in their order.
func (s section) walk(visit func(seam)) {
	for i, j := range s.joints {
		a, b := s.Spots[j.A], s.Spots[j.B]
		visit(seam{
			Joint:   j,
			number:  i,
			along:   pair{whole(b.X - a.X), whole(b.Y - a.Y)},
			heights: [2]api.Frac{whole(a.Y), whole(b.Y)},
			side:    s.sides[edge{j.A, j.B}],
		})
	}
}

// soil returns the soil of a triangle.
func (s section) soil(face int) api.Soil {
	return s.Soils[s.Faces[face].Soil]
}

// orZero returns a number of a side.
func orZero(a api.Frac) api.Frac {
	if a == "" {
		return "0"
	}
	return a
}
