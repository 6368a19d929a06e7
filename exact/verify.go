package exact

import "underpin/api"

// Verify checks an answer without searching (P1.8).
func Verify(rows []api.Row, goal []api.Term, a api.Answer) api.Errno {
	s, e := loadBeside(rows, goalRow(goal, "0"))
	if e != api.OK {
		return e
	}
	var right bool
	switch a.Kind {
	case api.AnBest:
		right = s.isBest(goal, a)
	case api.AnEmpty:
		sum, are := s.weigh(a.Weights)
		right = are && sum.contradicts()
	case api.AnFree:
		right = s.isFree(goal, a)
	default:
		return api.ErrArg
	}
	if !right {
		return api.ErrState
	}
	return api.OK
}

// isBest tells whether a point has the value of an answer, and weights prove that no point has a greater one.
func (s *system) isBest(goal []api.Term, a api.Answer) bool {
	if _, right := s.book.read(a.Value); !right {
		return false
	}
	p, kept := s.keeping(a.Point)
	if !kept {
		return false
	}
	var t tally
	l := s.lineOf(goalRow(goal, a.Value))
	if l.excess(&t, p).sign() != 0 {
		return false
	}
	sum, are := s.weigh(a.Weights)
	return are && sum.reaches(l)
}

// isFree tells whether from a point on a goal rises for ever along a ray.
func (s *system) isFree(goal []api.Term, a api.Answer) bool {
	_, kept := s.keeping(a.Point)
	if !kept || checkPoint(s.book, a.Ray) != api.OK {
		return false
	}
	var t tally
	ray := s.place(a.Ray)
	for i := range s.lines {
		if s.lines[i].sumAt(&t, ray.values).sign() > 0 {
			return false
		}
	}
	l := s.lineOf(goalRow(goal, "0"))
	return l.sumAt(&t, ray.values).sign() > 0
}

// keeping returns a point in whole numbers, and whether it is a point that keeps all lines.
func (s *system) keeping(point []api.Value) (spot, bool) {
	if checkPoint(s.book, point) != api.OK {
		return spot{}, false
	}
	p := s.place(point)
	return p, s.broken(p) == -1
}

// rowSum is the sum of rows by weights, for all columns, times scale.
type rowSum struct {
	coefs []whole
	bound whole
	scale whole // above 0
}

// weigh returns the sum of the rows by weights; false if they are no weights.
func (s *system) weigh(weights []api.Frac) (rowSum, bool) {
	if len(weights) != len(s.lines) {
		return rowSum{}, false
	}
	parts := make([]ratio, len(weights))
	for i, w := range weights {
		x, right := s.book.read(w)
		if !right || x.sign() < 0 {
			return rowSum{}, false
		}
		parts[i] = x.over(s.lines[i].factor)
	}
	times, scale := together(parts)
	sums := make([]tally, len(s.names)+1)
	for i, l := range s.lines {
		if times[i].sign() == 0 {
			continue
		}
		for k, column := range l.at {
			sums[column].add(l.coefs[k], times[i])
		}
		sums[len(s.names)].add(l.bound, times[i])
	}
	out := rowSum{scale: scale}
	for i := range s.names {
		out.coefs = append(out.coefs, sums[i].sum())
	}
	out.bound = sums[len(s.names)].sum()
	return out, true
}

// contradicts tells whether a sum of rows says that 0 is below 0.
func (w rowSum) contradicts() bool {
	for _, coef := range w.coefs {
		if coef.sign() != 0 {
			return false
		}
	}
	return w.bound.sign() < 0
}

// reaches tells whether a sum of rows has the terms of a line, and at most its bound.
func (w rowSum) reaches(l line) bool {
	// both sides times both scales
	ours, theirs := l.factor.top, w.scale.times(l.factor.bottom)
	coefs := l.spread(len(w.coefs))
	for i, coef := range w.coefs {
		if coef.times(ours).compare(coefs[i].times(theirs)) != 0 {
			return false
		}
	}
	return w.bound.times(ours).compare(l.bound.times(theirs)) <= 0
}

// CheckEmpty reports whether weights prove that no point keeps the rows (P1.9).
func CheckEmpty(rows []api.Row, weights []api.Frac) (bool, api.Errno) {
	s, e := load(rows)
	if e != api.OK {
		return false, e
	}
	sum, are := s.weigh(weights)
	return are && sum.contradicts(), api.OK
}

// CheckImplied reports whether weights prove that the rows imply one more (P1.9).
func CheckImplied(rows []api.Row, row api.Row, weights []api.Frac) (bool, api.Errno) {
	s, e := loadBeside(rows, row)
	if e != api.OK {
		return false, e
	}
	sum, are := s.weigh(weights)
	return are && (sum.contradicts() || sum.reaches(s.lineOf(row))), api.OK
}
