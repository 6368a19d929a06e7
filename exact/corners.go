package exact

import (
	"iter"
	"slices"

	"underpin/api"
)

// Corners returns all corners of a bounded set of points, in order (P1.11).
func Corners(rows []api.Row) ([][]api.Value, api.Errno) {
	s, e := load(rows)
	if e != api.OK {
		return nil, e
	}
	if len(s.names) > api.MaxCorners {
		return nil, api.ErrScope
	}
	path := newSearch(s)
	if v := path.settle(); v.ending == empty {
		return nil, api.OK
	}
	body, bounded := boxOf(path)
	if !bounded {
		return nil, api.ErrScope
	}
	for _, l := range s.lines {
		if len(l.at) > 0 {
			body.cut(l)
		}
	}
	return s.told(body.corners)
}

// told says corners as points, in order.
func (s *system) told(corners []corner) ([][]api.Value, api.Errno) {
	slices.SortFunc(corners, func(x, y corner) int {
		for i := range x.values {
			if c := x.values[i].times(y.scale).compare(y.values[i].times(x.scale)); c != 0 {
				return c
			}
		}
		return 0
	})
	var points [][]api.Value
	for _, c := range corners {
		point, e := s.point(c.spot)
		if e != api.OK {
			return nil, e
		}
		points = append(points, point)
	}
	return points, api.OK
}

// corner is a corner of a body, with the numbers of the faces on which it lies, increasing.
type corner struct {
	spot
	faces []int
}

// body is a bounded set of points: its corners, and the coefs of its faces, for all unknowns.
type body struct {
	unknowns int
	faces    [][]whole
	corners  []corner
	sums     tally
}

// boxOf returns the least box around the points that keep the lines; false if some unknown has no bound.
func boxOf(path *search) (*body, bool) {
	n := len(path.tight)
	box := &body{unknowns: n, corners: []corner{{spot: spot{make([]whole, n), small(1)}}}}
	for column := range n {
		low, bounded := path.furthest(column, small(-1))
		if !bounded {
			return nil, false
		}
		high, bounded := path.furthest(column, small(1))
		if !bounded {
			return nil, false
		}
		box.raise(column, low, high)
	}
	return box, true
}

// furthest returns the greatest value that an unknown, times a sign, has at points that keep the lines; false if there
// is none.
func (s *search) furthest(column int, sign whole) (ratio, bool) {
	n := len(s.tight)
	goal := make([]whole, n)
	goal[column] = sign
	if v := s.rise(goal); v.ending != best {
		return ratio{}, false
	}
	return ratioOf(s.values[column], s.scale), true
}

// raise makes a box that is 0 in a column one from low to high there.
func (b *body) raise(column int, low, high ratio) {
	face := make([]whole, b.unknowns)
	face[column] = small(1)
	under, over := len(b.faces), len(b.faces)+1
	var corners []corner
	for _, c := range b.corners {
		if low.compare(high) == 0 {
			corners = append(corners, c.moved(column, low, under, over))
			continue
		}
		corners = append(corners, c.moved(column, low, under), c.moved(column, high, over))
	}
	b.faces, b.corners = append(b.faces, face, face), corners
}

// moved returns a corner of a box with another value in a column, and with faces more.
func (c corner) moved(column int, value ratio, faces ...int) corner {
	values := make([]whole, len(c.values))
	for i, x := range c.values {
		values[i] = x.times(value.bottom)
	}
	values[column] = value.top.times(c.scale)
	return corner{spot{values, c.scale.times(value.bottom)}, slices.Concat(c.faces, faces)}
}

// apart is a corner that lies off a line, and how far: its excess, without the sign.
type apart struct {
	corner
	by whole
}

// cut leaves the part of the body in which a line is kept.
func (b *body) cut(l line) {
	number := len(b.faces)
	var kept, gone []apart
	var corners []corner
	for _, c := range b.corners {
		excess := l.excess(&b.sums, c.spot)
		switch excess.sign() {
		case 1:
			gone = append(gone, apart{c, excess})
			continue
		case 0:
			c.faces = append(slices.Clip(c.faces), number)
		default:
			kept = append(kept, apart{c, excess.negated()})
		}
		corners = append(corners, c)
	}
	for c := range b.crossings(kept, gone, number) {
		corners = append(corners, c)
	}
	b.faces, b.corners = append(b.faces, l.spread(b.unknowns)), corners
}

// crossings tells the corners that come where edges from one side of a new face to the other one meet it.
func (b *body) crossings(kept, gone []apart, number int) iter.Seq[corner] {
	return func(yield func(corner) bool) {
		for _, x := range kept {
			for _, y := range gone {
				faces := shared(x.faces, y.faces)
				if b.isEdge(faces) && !yield(x.between(y, append(faces, number))) {
					return
				}
			}
		}
	}
}

// shared returns the numbers that are in both of two increasing lists.
func shared(x, y []int) []int {
	var both []int
	for _, n := range x {
		if _, found := slices.BinarySearch(y, n); found {
			both = append(both, n)
		}
	}
	return both
}

// isEdge tells whether faces on which two corners lie leave no more than the straight line through both: whether there
// are one less among them than unknowns, none of which follows from the others. (There are three unknowns at most.)
func (b *body) isEdge(faces []int) bool {
	if b.unknowns < api.MaxCorners {
		return len(faces) >= b.unknowns-1
	}
	for _, n := range faces {
		if !parallel(b.faces[faces[0]], b.faces[n]) {
			return true
		}
	}
	return false
}

// parallel tells whether two lists of numbers are multiples of each other.
func parallel(x, y []whole) bool {
	for i := range x {
		for j := range i {
			if x[i].times(y[j]).compare(x[j].times(y[i])) != 0 {
				return false
			}
		}
	}
	return true
}

// between returns the corner between two on both sides of a face, on the face, with these faces.
func (c apart) between(other apart, faces []int) corner {
	values := make([]whole, len(c.values))
	scale := c.scale.times(other.by).plus(other.scale.times(c.by))
	divisor := scale
	for i := range values {
		values[i] = c.values[i].times(other.by).plus(other.values[i].times(c.by))
		divisor = common(divisor, values[i])
	}
	for i, x := range values {
		values[i] = x.over(divisor)
	}
	return corner{spot{values, scale.over(divisor)}, faces}
}
