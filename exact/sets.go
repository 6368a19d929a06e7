package exact

import "underpin/api"

// Smallest returns rows that are empty, and no more so without any of them (P1.10).
func Smallest(rows []api.Row) ([]int, api.Errno) {
	s, e := load(rows)
	if e != api.OK {
		return nil, e
	}
	path := newSearch(s)
	v := path.settle()
	if v.ending != empty {
		return nil, api.ErrNone
	}
	return smallest(s, path, v), api.OK
}

// smallest takes lines away as long as those that are left are empty, which a search has found of all of them. A line
// without weight in the proof is taken away without a search.
func smallest(s *system, path *search, v verdict) []int {
	weights := path.contradiction(v.line)
	out := make([]bool, len(s.lines))
	for i := range s.lines {
		out[i] = true
		if weights[i].sign() == 0 {
			continue
		}
		path := newSearch(s)
		copy(path.out, out)
		if v := path.settle(); v.ending == empty {
			weights = path.contradiction(v.line)
		} else {
			out[i] = false
		}
	}
	return remaining(out)
}

// remaining returns the numbers of those that are not out.
func remaining(out []bool) []int {
	var numbers []int
	for i, gone := range out {
		if !gone {
			numbers = append(numbers, i)
		}
	}
	return numbers
}

// Lean returns rows that say the same as all of them, none of them twice (P1.10).
func Lean(rows []api.Row) ([]int, api.Errno) {
	s, e := load(rows)
	if e != api.OK {
		return nil, e
	}
	path := newSearch(s)
	if v := path.settle(); v.ending == empty {
		// empty rows imply any row, and others imply none that makes them empty
		return smallest(s, path, v), api.OK
	}
	for i := range s.lines {
		if without := path.copied(); without.implies(i) {
			path = without
		}
	}
	return remaining(path.out), api.OK
}

// implies takes a line out, and tells whether the others imply it. The search begins at a corner that keeps all lines,
// and ends at one if they do.
func (s *search) implies(i int) bool {
	s.out[i] = true
	if k := s.slots[i]; k != none {
		j, beyond := s.stop(k, false)
		if j == none || beyond {
			return false
		}
		s.swap(j, k, s.slopes(j))
	}
	s.watch = i
	v := s.rise(s.lines[i].spread(len(s.tight)))
	s.watch = none
	return v.ending == best
}
