package exact

// none stands for no line, and for no slot.
const none = -1

// ending is how a search ends.
type ending int

const (
	goesOn   ending = iota // the search may go on
	best                   // the goal has its greatest value at the spot
	empty                  // no point keeps the lines
	free                   // the goal rises for ever along a way
	exceeded               // the spot exceeds the watched line
)

// verdict is what a search leaves with.
type verdict struct {
	ending ending
	line   int // empty: a line that contradicts those that are tight
	slot   int // free: the slot of the way
}

// search moves a spot from corner to corner of what lines allow (the simplex method). Each unknown has a slot: in it a
// line is tight, or, as long as there is no line for it, the unknown is held where it is. All numbers are whole:
// everything is multiplied by scale, the determinant of the tight lines, so that every division is without a rest.
type search struct {
	lines []line
	out   []bool    // lines that do not count
	slots []int     // of each line: the slot in which it is tight, or none
	tight []int     // of each slot: the line that is tight in it, or none
	ways  [][]whole // of each slot: along which way its line alone rises, by scale; behind the unknowns: by how much the goal does
	spot            // behind the unknowns it has the goal
	goal  []whole
	stuck bool // the last move has gained nothing
	watch int  // a line that ends a climb when it is exceeded, or none
	sums  tally
}

// newSearch begins at the point where all unknowns are 0.
func newSearch(s *system) *search {
	n := len(s.names)
	out := &search{lines: s.lines, out: make([]bool, len(s.lines)), slots: make([]int, len(s.lines)), tight: make([]int, n), watch: none}
	for i := range out.slots {
		out.slots[i] = none
	}
	for k := range out.tight {
		out.tight[k] = none
		way := make([]whole, n+1)
		way[k] = small(1)
		out.ways = append(out.ways, way)
	}
	out.spot = spot{make([]whole, n+1), small(1)}
	return out
}

// copied returns a search that goes on from here by itself.
func (s *search) copied() *search {
	out := *s
	out.out = append([]bool(nil), s.out...)
	out.slots = append([]int(nil), s.slots...)
	out.tight = append([]int(nil), s.tight...)
	out.ways = nil
	for _, way := range s.ways {
		out.ways = append(out.ways, append([]whole(nil), way...))
	}
	out.values = append([]whole(nil), s.values...)
	out.sums = tally{}
	return &out
}

// moves are the parts of a search: the first two lead to a corner that keeps all lines, the last one to the best.
func moves() [3]func(*search) {
	return [3]func(*search){(*search).fill, (*search).repair, (*search).climb}
}

// run does moves until one of them leaves with a verdict.
func (s *search) run(moves []func(*search)) (v verdict) {
	defer func() { v, _ = recover().(verdict) }()
	for _, move := range moves {
		move(s)
	}
	return v
}

// leave ends a search.
func leave(v verdict) {
	panic(v)
}

// settle leads to a corner that keeps all lines; its verdict is empty if there is none.
func (s *search) settle() verdict {
	m := moves()
	return s.run(m[:2])
}

// rise leads from a corner that keeps all lines to one where the goal is greatest.
func (s *search) rise(goal []whole) verdict {
	s.aim(goal)
	m := moves()
	return s.run(m[2:])
}

// aim sets the goal.
func (s *search) aim(goal []whole) {
	n := len(s.tight)
	for _, way := range s.ways {
		way[n] = s.product(goal, way)
	}
	s.values[n] = s.product(goal, s.values)
	s.stuck = false
}

// product returns the sum of the goal's numbers times those of a way.
func (s *search) product(goal, way []whole) whole {
	for i, x := range goal {
		s.sums.add(x, way[i])
	}
	return s.sums.sum()
}

// slopes returns by how much a line rises along the way of each slot.
func (s *search) slopes(i int) []whole {
	out := make([]whole, len(s.ways))
	for k, way := range s.ways {
		out[k] = s.lines[i].sumAt(&s.sums, way)
	}
	return out
}

// swap makes a line tight in a slot, instead of the one there; slopes are those of the line, not 0 in that slot.
func (s *search) swap(i, k int, slopes []whole) {
	over := s.lines[i].excess(&s.sums, s.spot)
	scale := slopes[k]
	if scale.minus {
		scale = scale.negated()
		for l, x := range s.ways[k] {
			s.ways[k][l] = x.negated()
		}
	}
	for j, way := range s.ways {
		if j != k {
			s.turn(way, scale, s.ways[k], slopes[j])
		}
	}
	s.turn(s.values, scale, s.ways[k], over)
	s.scale = scale
	if old := s.tight[k]; old != none {
		s.slots[old] = none
	}
	s.tight[k], s.slots[i] = i, k
}

// turn replaces each number of a way by itself times scale less that of the other way times slope, divided by the
// search's scale.
func (s *search) turn(way []whole, scale whole, other []whole, slope whole) {
	for l, x := range way {
		if x.sign() == 0 && (slope.sign() == 0 || other[l].sign() == 0) {
			continue
		}
		s.sums.add(x, scale)
		s.sums.take(other[l], slope)
		way[l] = s.sums.sum().over(s.scale)
	}
}

// fill makes lines tight in as many slots as it can.
func (s *search) fill() {
	for i := range s.lines {
		if s.out[i] {
			continue
		}
		for k, way := range s.ways {
			if s.tight[k] != none {
				continue
			}
			if s.lines[i].sumAt(&s.sums, way).sign() != 0 {
				s.swap(i, k, s.slopes(i))
				break
			}
		}
	}
}

// repair makes lines tight that are not kept, until all are. So that it ends it lets a goal fall that was greatest at
// the first corner: the sum of the lines that are tight there.
func (s *search) repair() {
	s.aim(s.tightSum())
	for {
		i := s.worst()
		if i == none {
			return
		}
		slopes := s.slopes(i)
		k := s.giving(slopes)
		if k == none {
			leave(verdict{ending: empty, line: i})
		}
		s.stuck = s.ways[k][len(s.tight)].sign() == 0
		s.swap(i, k, slopes)
	}
}

// tightSum returns the sum of the tight lines.
func (s *search) tightSum() []whole {
	sum := make([]whole, len(s.tight))
	for _, i := range s.tight {
		if i == none {
			continue
		}
		for j, column := range s.lines[i].at {
			sum[column] = sum[column].plus(s.lines[i].coefs[j])
		}
	}
	return sum
}

// worst returns a line that the spot does not keep: the one that it exceeds most, or, behind a move without gain, the
// first one. (Bland's rule: so no corner comes twice.)
func (s *search) worst() int {
	found := none
	var most whole
	for i := range s.lines {
		if s.out[i] || s.slots[i] != none {
			continue
		}
		over := s.lines[i].excess(&s.sums, s.spot)
		if over.sign() > 0 && (found == none || over.compare(most) > 0) {
			if found, most = i, over; s.stuck {
				return i
			}
		}
	}
	return found
}

// giving returns the slot whose line is to give way to one with these slopes, so that the goal stays greatest: where the
// goal falls least for each unit by which the new line does; of several, the one with the first line.
func (s *search) giving(slopes []whole) int {
	n := len(s.tight)
	found := none
	for k, slope := range slopes {
		if slope.sign() <= 0 || s.tight[k] == none {
			continue
		}
		if found == none {
			found = k
			continue
		}
		s.sums.add(s.ways[k][n], slopes[found])
		s.sums.take(s.ways[found][n], slope)
		c := s.sums.sum()
		if c.sign() < 0 || c.sign() == 0 && s.tight[k] < s.tight[found] {
			found = k
		}
	}
	return found
}

// climb moves along ways on which the goal rises, until there is none.
func (s *search) climb() {
	for {
		if s.watch != none && s.lines[s.watch].excess(&s.sums, s.spot).sign() > 0 {
			leave(verdict{ending: exceeded})
		}
		k := s.loosest()
		if k == none {
			leave(verdict{ending: best})
		}
		if s.tight[k] == none {
			leave(verdict{ending: free, slot: k})
		}
		i, gains := s.stop(k, true)
		if i == none {
			leave(verdict{ending: free, slot: k})
		}
		s.stuck = !gains
		s.swap(i, k, s.slopes(i))
	}
}

// loosest returns the slot whose line is to be left, so that the goal rises: the one where it rises most, or, behind a
// move without gain, that of the first line (Bland's rule); first of all a slot without a line.
func (s *search) loosest() int {
	n := len(s.tight)
	found := none
	for k, way := range s.ways {
		sign := way[n].sign()
		if s.tight[k] == none && sign != 0 {
			return k
		}
		if sign >= 0 {
			continue
		}
		if found == none || !s.stuck && way[n].compare(s.ways[found][n]) < 0 || s.stuck && s.tight[k] < s.tight[found] {
			found = k
		}
	}
	return found
}

// stop returns the first line that is met along the way of a slot, or backwards along it, and whether that leads away
// from the spot; none if no line is met.
func (s *search) stop(k int, backwards bool) (int, bool) {
	found := none
	var room, rate whole
	for i := range s.lines {
		if s.out[i] || s.slots[i] != none {
			continue
		}
		slope := s.lines[i].sumAt(&s.sums, s.ways[k])
		if backwards {
			slope = slope.negated()
		}
		if slope.sign() <= 0 {
			continue
		}
		left := s.lines[i].excess(&s.sums, s.spot).negated()
		if found == none || left.times(rate).compare(room.times(slope)) < 0 {
			found, room, rate = i, left, slope
		}
	}
	return found, room.sign() > 0
}
