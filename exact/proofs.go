package exact

import "underpin/api"

// goalRow returns the row that says that the sum of a goal's terms is at most a bound.
func goalRow(goal []api.Term, bound api.Frac) api.Row {
	return api.Row{Terms: goal, Bound: bound}
}

// Solve returns an answer that holds for rows and a goal (P1.8).
func Solve(rows []api.Row, goal []api.Term) (api.Answer, api.Errno) {
	s, e := loadBeside(rows, goalRow(goal, "0"))
	if e != api.OK {
		return api.Answer{}, e
	}
	return s.solve(goal)
}

// solve returns an answer for a goal. Its error is ErrLimit if a number of the answer has too many digits (which the
// document says cannot be; it can, if more than 60 unknowns have long denominators everywhere).
func (s *system) solve(terms []api.Term) (api.Answer, api.Errno) {
	goal := s.lineOf(goalRow(terms, "0"))
	path := newSearch(s)
	v := path.settle()
	if v.ending == goesOn {
		v = path.rise(goal.spread(len(s.names)))
	}
	a, e := s.answer(path, goal, v)
	if e != api.OK {
		return api.Answer{}, e
	}
	return a, api.OK
}

// spread returns the coefs of a line, for all n columns.
func (l *line) spread(n int) []whole {
	out := make([]whole, n)
	for i, column := range l.at {
		out[column] = l.coefs[i]
	}
	return out
}

// answer says what a search for the greatest value of a goal has found.
func (s *system) answer(path *search, goal line, v verdict) (a api.Answer, e api.Errno) {
	if v.ending == empty {
		a.Kind = api.AnEmpty
		a.Weights, e = texts(path.contradiction(v.line))
		return a, e
	}
	if a.Point, e = s.point(path.spot); e != api.OK {
		return a, e
	}
	if v.ending == free {
		a.Kind = api.AnFree
		a.Ray, e = s.point(path.ray(v.slot))
		return a, e
	}
	a.Kind = api.AnBest
	if a.Weights, e = texts(path.proof(goal.factor)); e != api.OK {
		return a, e
	}
	value := ratioOf(path.values[len(s.names)], path.scale)
	a.Value, e = value.over(goal.factor).text()
	return a, e
}

// texts writes numbers.
func texts(numbers []ratio) ([]api.Frac, api.Errno) {
	var out []api.Frac
	for _, x := range numbers {
		text, e := x.text()
		if e != api.OK {
			return nil, e
		}
		out = append(out, text)
	}
	return out, api.OK
}

// zeros returns a weight 0 for each line.
func (s *search) zeros() []ratio {
	out := make([]ratio, len(s.lines))
	for i := range out {
		out[i] = integer(small(0))
	}
	return out
}

// contradiction returns weights for the rows: those by which a line that is not kept, and the tight ones that rise with
// it backwards, add up to a row without terms.
func (s *search) contradiction(i int) []ratio {
	out := s.zeros()
	unit := s.lines[i].factor
	out[i] = integer(small(1))
	for k, slope := range s.slopes(i) {
		if j := s.tight[k]; j != none {
			out[j] = ratioOf(slope.negated(), s.scale).times(s.lines[j].factor.over(unit))
		}
	}
	return out
}

// proof returns weights for the rows by which they add up to the goal, which is factor times what was said.
func (s *search) proof(factor ratio) []ratio {
	out := s.zeros()
	for k, i := range s.tight {
		if i != none {
			out[i] = ratioOf(s.ways[k][len(s.tight)], s.scale).times(s.lines[i].factor.over(factor))
		}
	}
	return out
}

// ray returns the way of a slot, or its opposite, as the goal rises along it.
func (s *search) ray(k int) spot {
	n := len(s.tight)
	var divisor whole
	for _, x := range s.ways[k][:n] {
		divisor = common(divisor, x)
	}
	if s.ways[k][n].minus {
		divisor = divisor.negated()
	}
	out := spot{make([]whole, n), small(1)}
	for l, x := range s.ways[k][:n] {
		out.values[l] = x.over(divisor)
	}
	return out
}

// Empty reports whether no point keeps the rows (P1.9).
func Empty(rows []api.Row) (yes bool, weights []api.Frac, point []api.Value, e api.Errno) {
	a, e := Solve(rows, nil)
	if e != api.OK {
		return false, nil, nil, e
	}
	if a.Kind == api.AnEmpty {
		return true, a.Weights, nil, api.OK
	}
	return false, nil, a.Point, api.OK
}

// Implied reports whether each point that keeps the rows keeps one more (P1.9).
func Implied(rows []api.Row, row api.Row) (yes bool, weights []api.Frac, point []api.Value, e api.Errno) {
	s, e := loadBeside(rows, row)
	if e != api.OK {
		return false, nil, nil, e
	}
	a, e := s.solve(row.Terms)
	switch {
	case e != api.OK:
		return false, nil, nil, e
	case a.Kind == api.AnEmpty:
		return true, a.Weights, nil, api.OK
	case a.Kind == api.AnFree:
		point, e = s.beyond(row, a.Point, a.Ray)
		return false, nil, point, e
	}
	value, _ := parse(a.Value)
	if value.compare(s.book.known(row.Bound)) > 0 {
		return false, nil, a.Point, api.OK
	}
	return true, a.Weights, nil, api.OK
}

// beyond returns a point that does not keep the row: one of those from a point on along a ray.
func (s *system) beyond(row api.Row, point, ray []api.Value) ([]api.Value, api.Errno) {
	var t tally
	l := s.lineOf(row)
	from, along := s.place(point), s.place(ray)
	// behind so many steps the line is exceeded by as much as it rises in one
	steps := ratioOf(l.excess(&t, from).negated(), from.scale).over(ratioOf(l.sumAt(&t, along.values), along.scale))
	if steps.sign() < 0 {
		return point, api.OK
	}
	steps = steps.plus(integer(small(1)))
	sums := make([]ratio, len(s.names))
	for i := range sums {
		sums[i] = ratioOf(from.values[i], from.scale).plus(ratioOf(along.values[i], along.scale).times(steps))
	}
	values, scale := together(sums)
	return s.point(spot{values, scale})
}
