package limit

import "underpin/api"

// factor is the name of the load factor.
const factor = "load"

// directions are the twelve directions, in fifths, in which the strength of soils is looked at.
var directions = [12][2]int{
	{5, 0}, {4, 3}, {3, 4}, {0, 5}, {-3, 4}, {-4, 3}, {-5, 0}, {-4, -3}, {-3, -4}, {0, -5}, {3, -4}, {4, -3},
}

// stresses is the lower program: it gathers its rows.
type stresses struct {
	section
	program
}

// lower returns the lower program of a mesh.
func lower(m api.Mesh) program {
	p := &stresses{section: sectionOf(m)}
	p.walk(p.balance)
	for face := range p.Faces {
		p.strength(face)
	}
	p.goal = []api.Term{{Name: factor, Coef: "1"}}
	return p.program
}

// balance adds what holds at a joint: both sides pull on it alike, or the ground pulls on it as the loads do.
func (p *stresses) balance(at seam) {
	if at.side.Fixed {
		return
	}
	p.equal(p.pullX(at))
	for _, height := range at.heights {
		p.equal(p.pullY(at, height))
	}
}

// pullX returns what is left of all pulls at a joint in X.
func (p *stresses) pullX(at seam) sum {
	rest := unbalanced(at, inX)
	for _, from := range at.parties() {
		rest.add(numbered("x", from.face), from.sign, at.along[inY])
		rest.add(numbered("t", from.face), "-1", from.sign, at.along[inX])
	}
	return rest
}

// pullY returns what is left of all pulls at a joint in Y, at a height.
func (p *stresses) pullY(at seam, height api.Frac) sum {
	rest := unbalanced(at, inY)
	for _, from := range at.parties() {
		rest.add(numbered("t", from.face), from.sign, at.along[inY])
		p.addUpright(rest, from.face, height, product("-1", from.sign, at.along[inX]))
	}
	return rest
}

// unbalanced returns minus the loads on a joint, in X or in Y.
func unbalanced(at seam, axis int) sum {
	rest := sum{}
	rest.add(factor, "-1", at.live()[axis])
	rest.add(constant, "-1", at.dead()[axis])
	return rest
}

// addUpright adds the stress in Y of a triangle at a height, so many times.
func (p *stresses) addUpright(s sum, face int, height, times api.Frac) {
	s.add(numbered("y", face), times)
	s.add(constant, p.soil(face).Weight, height, times)
}

// strength adds what holds at the corners of a triangle: nowhere are stresses beyond the strength of its soil. Between
// the corners they are not either, because they are linear there.
func (p *stresses) strength(face int) {
	f, soil := p.Faces[face], p.soil(face)
	for _, corner := range [3]int{f.A, f.B, f.C} {
		height := whole(p.Spots[corner].Y)
		for i, d := range directions {
			e := directions[(i+1)%len(directions)]
			normal := [2]int{e[1] - d[1], d[0] - e[0]}
			across, shear := quotient(whole(normal[0]), "5"), quotient(whole(normal[1]), "5")
			reach := quotient(whole(normal[0]*d[0]+normal[1]*d[1]), "25")
			squeeze := product(reach, soil.Sin)
			beyond := sum{}
			beyond.add(numbered("x", face), across)
			beyond.add(numbered("x", face), squeeze)
			beyond.add(numbered("t", face), "2", shear)
			p.addUpright(beyond, face, height, product("-1", across))
			p.addUpright(beyond, face, height, squeeze)
			beyond.add(constant, "-2", reach, soil.Cohesion, soil.Cos)
			p.atMost(beyond)
		}
	}
}
