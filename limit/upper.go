package limit

import "underpin/api"

// moves is the upper program: it gathers its rows.
type moves struct {
	section
	program
	driven sum // how fast the loads that the load factor multiplies do work
	work   sum // how fast all other forces do, less what sliding takes
}

// upper returns the upper program of a mesh, for a sense.
func upper(m api.Mesh, sense int) program {
	p := &moves{section: sectionOf(m), driven: sum{}, work: sum{}}
	p.walk(p.slide)
	p.walk(p.drive)
	for face := range p.Faces {
		p.fall(face)
	}
	p.driven.add(constant, whole(-sense))
	p.equal(p.driven)
	p.goal = p.work.terms()
	return p.program
}

// slide adds what holds where two sides of a joint slide along each other: how they part follows from how they slide.
func (p *moves) slide(at seam) {
	if !at.slides() {
		return
	}
	along, apart := sum{}, sum{}
	for _, of := range at.parties() {
		u, w, sign := numbered("u", of.face), numbered("w", of.face), product("-1", of.sign)
		along.add(u, sign, at.along[inX])
		along.add(w, sign, at.along[inY])
		apart.add(u, sign, at.along[inY])
		apart.add(w, of.sign, at.along[inX])
	}
	soil, slip := p.soil(at.Left), numbered("s", at.number)
	for _, way := range []sum{along, along.opposite()} {
		way.add(slip, "-1")
		p.atMost(way)
	}
	apart.add(slip, "-1", quotient(soil.Sin, soil.Cos))
	p.equal(apart)
	p.work.add(slip, "-1", soil.Cohesion)
}

// drive adds what the loads on a joint do.
func (p *moves) drive(at seam) {
	if at.slides() {
		return
	}
	for axis, name := range [2]string{"u", "w"} {
		p.driven.add(numbered(name, at.Left), at.live()[axis])
		p.work.add(numbered(name, at.Left), at.dead()[axis])
	}
}

// fall adds what the weight of a triangle does.
func (p *moves) fall(face int) {
	twice := whole(twiceArea(p.Spots, p.Faces[face]))
	p.work.add(numbered("w", face), "-1/2", twice, p.soil(face).Weight)
}
