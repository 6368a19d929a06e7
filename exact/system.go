package exact

import (
	"slices"

	"underpin/api"
)

// line is a row in whole numbers: what was said, times factor.
type line struct {
	at     []int // the columns of its unknowns, increasing
	coefs  []whole
	bound  whole
	factor ratio // above 0
}

// system is rows in whole numbers; each unknown is a column.
type system struct {
	book  book
	names []string
	lines []line
}

// spot is a point in whole numbers: the values of all columns, times scale.
type spot struct {
	values []whole
	scale  whole // above 0
}

// load returns the error of rows, or the rows in whole numbers.
func load(rows []api.Row) (*system, api.Errno) {
	b := book{}
	if e := checkRows(b, rows); e != api.OK {
		return nil, e
	}
	return systemOf(b, rows, nil), api.OK
}

// loadBeside returns the error of rows, and of a row beside them, or the rows in whole numbers; the unknowns of the one
// beside are columns as well.
func loadBeside(rows []api.Row, row api.Row) (*system, api.Errno) {
	b := book{}
	if e := checkRows(b, rows); e != api.OK {
		return nil, e
	}
	if e := checkRow(b, row); e != api.OK {
		return nil, e
	}
	if len(unknowns(rows, row.Terms)) > api.MaxVars {
		return nil, api.ErrLimit
	}
	return systemOf(b, rows, row.Terms), api.OK
}

// systemOf returns rows, which have no error, over their unknowns and those of terms beside them.
func systemOf(b book, rows []api.Row, beside []api.Term) *system {
	s := &system{book: b, names: unknowns(rows, beside)}
	for _, row := range rows {
		s.lines = append(s.lines, s.lineOf(row))
	}
	return s
}

// lineOf returns a row in whole numbers without a common divisor. Its unknowns are columns of the system.
func (s *system) lineOf(row api.Row) line {
	bound := s.book.known(row.Bound)
	scale := bound.bottom
	for _, t := range row.Terms {
		scale = multiple(scale, s.book.known(t.Coef).bottom)
	}
	l := line{bound: scaledUp(bound, scale)}
	divisor := l.bound
	for _, t := range row.Terms {
		column, _ := slices.BinarySearch(s.names, t.Name)
		coef := scaledUp(s.book.known(t.Coef), scale)
		l.at, l.coefs = append(l.at, column), append(l.coefs, coef)
		divisor = common(divisor, coef)
	}
	if divisor.sign() == 0 {
		divisor = small(1)
	}
	divisor = divisor.positive()
	l.bound = l.bound.over(divisor)
	for i, coef := range l.coefs {
		l.coefs[i] = coef.over(divisor)
	}
	l.factor = ratioOf(scale, divisor)
	return l
}

// multiple returns the least common multiple of two numbers above 0.
func multiple(x, y whole) whole {
	if y.isOne() {
		return x
	}
	return x.times(y.over(common(x, y)))
}

// scaledUp returns x times scale, a multiple of its bottom.
func scaledUp(x ratio, scale whole) whole {
	return x.top.times(scale.over(x.bottom))
}

// together returns numbers times the least scale above 0 that makes them whole, and the scale.
func together(numbers []ratio) ([]whole, whole) {
	scale := small(1)
	for _, x := range numbers {
		scale = multiple(scale, x.bottom)
	}
	out := make([]whole, len(numbers))
	for i, x := range numbers {
		out[i] = scaledUp(x, scale)
	}
	return out, scale
}

// place returns a point, which has no error, in whole numbers; what it names beyond the columns does not matter.
func (s *system) place(point []api.Value) spot {
	numbers := make([]ratio, len(s.names))
	for i := range numbers {
		numbers[i] = integer(small(0))
	}
	for _, v := range point {
		if column, found := slices.BinarySearch(s.names, v.Name); found {
			numbers[column] = s.book.known(v.Value)
		}
	}
	values, scale := together(numbers)
	return spot{values, scale}
}

// sumAt returns the sum of the line's terms at the values of all columns.
func (l *line) sumAt(t *tally, values []whole) whole {
	for i, column := range l.at {
		t.add(l.coefs[i], values[column])
	}
	return t.sum()
}

// excess returns by how much the sum of the line's terms at a spot is greater than its bound, times the spot's scale.
func (l *line) excess(t *tally, p spot) whole {
	for i, column := range l.at {
		t.add(l.coefs[i], p.values[column])
	}
	t.take(l.bound, p.scale)
	return t.sum()
}

// broken returns the number of the first line that a spot does not keep, or -1.
func (s *system) broken(p spot) int {
	var t tally
	for i := range s.lines {
		if s.lines[i].excess(&t, p).sign() > 0 {
			return i
		}
	}
	return -1
}

// point says a spot as a point that names all unknowns.
func (s *system) point(p spot) ([]api.Value, api.Errno) {
	var point []api.Value
	for i, name := range s.names {
		value, e := ratioOf(p.values[i], p.scale).text()
		if e != api.OK {
			return nil, e
		}
		point = append(point, api.Value{Name: name, Value: value})
	}
	return point, api.OK
}
