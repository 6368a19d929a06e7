package exact

import (
	"maps"
	"slices"

	"underpin/api"
)

// isName tells whether a text is a name (DOC.md).
func isName(text string) bool {
	for i, c := range []byte(text) {
		letter := c >= 'a' && c <= 'z'
		later := c >= '0' && c <= '9' || c == '-'
		if !letter && (i == 0 || !later) {
			return false
		}
	}
	return text != "" && len(text) <= api.MaxName
}

// checkOrder returns the error of a name behind the one ahead of it.
func checkOrder(ahead, name string) api.Errno {
	switch {
	case ahead == name:
		return api.ErrTwice
	case ahead > name:
		return api.ErrArg
	}
	return api.OK
}

// checkTerms returns the error of terms.
func checkTerms(b book, terms []api.Term) api.Errno {
	for i, t := range terms {
		if !isName(t.Name) {
			return api.ErrName
		}
		coef, right := b.read(t.Coef)
		switch {
		case !right:
			return api.ErrForm
		case coef.sign() == 0:
			return api.ErrArg
		case !inputSize(t.Coef):
			return api.ErrLimit
		}
		if i > 0 {
			if e := checkOrder(terms[i-1].Name, t.Name); e != api.OK {
				return e
			}
		}
	}
	return api.OK
}

// checkRow returns the error of a row.
func checkRow(b book, row api.Row) api.Errno {
	if e := checkTerms(b, row.Terms); e != api.OK {
		return e
	}
	if _, right := b.read(row.Bound); !right {
		return api.ErrForm
	}
	if !inputSize(row.Bound) {
		return api.ErrLimit
	}
	return api.OK
}

// checkPoint returns the error of a point.
func checkPoint(b book, point []api.Value) api.Errno {
	for i, v := range point {
		if !isName(v.Name) {
			return api.ErrName
		}
		if _, right := b.read(v.Value); !right {
			return api.ErrForm
		}
		if i > 0 {
			if e := checkOrder(point[i-1].Name, v.Name); e != api.OK {
				return e
			}
		}
	}
	return api.OK
}

// unknowns returns the names in rows and in terms beside them, increasing.
func unknowns(rows []api.Row, beside []api.Term) []string {
	seen := map[string]bool{}
	for _, row := range rows {
		for _, t := range row.Terms {
			seen[t.Name] = true
		}
	}
	for _, t := range beside {
		seen[t.Name] = true
	}
	return slices.Sorted(maps.Keys(seen))
}

// checkRows returns the error of a list of rows.
func checkRows(b book, rows []api.Row) api.Errno {
	if len(rows) > api.MaxRows {
		return api.ErrLimit
	}
	for _, row := range rows {
		if e := checkRow(b, row); e != api.OK {
			return e
		}
	}
	if len(unknowns(rows, nil)) > api.MaxVars {
		return api.ErrLimit
	}
	return api.OK
}

// Check returns the first error of a list of rows (P1.4).
func Check(rows []api.Row) api.Errno {
	return checkRows(book{}, rows)
}

// Names returns the unknowns of rows (P1.4).
func Names(rows []api.Row) ([]string, api.Errno) {
	if e := Check(rows); e != api.OK {
		return nil, e
	}
	return unknowns(rows, nil), api.OK
}

// Sum returns the sum of terms at a point (P1.5).
func Sum(terms []api.Term, point []api.Value) (api.Frac, api.Errno) {
	b := book{}
	if e := checkTerms(b, terms); e != api.OK {
		return "", e
	}
	if e := checkPoint(b, point); e != api.OK {
		return "", e
	}
	sum := integer(small(0))
	for _, t := range terms {
		for len(point) > 0 && point[0].Name < t.Name {
			point = point[1:]
		}
		if len(point) > 0 && point[0].Name == t.Name {
			sum = sum.plus(b.known(t.Coef).times(b.known(point[0].Value)))
		}
	}
	return sum.text()
}

// Holds returns the number of the first row that a point does not keep, or -1 (P1.5).
func Holds(rows []api.Row, point []api.Value) (first int, e api.Errno) {
	s, e := load(rows)
	if e != api.OK {
		return 0, e
	}
	if e := checkPoint(s.book, point); e != api.OK {
		return 0, e
	}
	return s.broken(s.place(point)), api.OK
}

// Eliminate returns rows that say of the other unknowns what these rows say of them (P1.7).
func Eliminate(rows []api.Row, name string) ([]api.Row, api.Errno) {
	b := book{}
	if e := checkRows(b, rows); e != api.OK {
		return nil, e
	}
	var rest []api.Row
	var above, below []scaled
	for _, row := range rows {
		at := slices.IndexFunc(row.Terms, func(t api.Term) bool { return t.Name == name })
		if at < 0 {
			rest = append(rest, api.Row{Terms: slices.Clone(row.Terms), Bound: row.Bound})
			continue
		}
		coef := b.known(row.Terms[at].Coef)
		if coef.sign() > 0 {
			above = append(above, scaled{row, coef.inverse()})
		} else {
			below = append(below, scaled{row, coef.inverse().negated()})
		}
	}
	if len(above)+len(below) == 0 {
		return nil, api.ErrNone
	}
	if len(rest)+len(above)*len(below) > api.MaxRows {
		return nil, api.ErrLimit
	}
	for _, up := range above {
		for _, down := range below {
			row, e := joined(b, up, down)
			if e != api.OK {
				return nil, e
			}
			rest = append(rest, row)
		}
	}
	return rest, api.OK
}

// scaled is a row, and what it is to be multiplied by.
type scaled struct {
	row api.Row
	by  ratio
}

// joined returns the sum of two rows: ErrLimit if a number of it has too many digits for a row.
func joined(b book, x, y scaled) (api.Row, api.Errno) {
	sums := map[string]ratio{}
	for _, part := range []scaled{x, y} {
		for _, t := range part.row.Terms {
			more := b.known(t.Coef).times(part.by)
			if sum, both := sums[t.Name]; both {
				more = more.plus(sum)
			}
			sums[t.Name] = more
		}
	}
	var row api.Row
	for _, name := range slices.Sorted(maps.Keys(sums)) {
		sum := sums[name]
		if sum.sign() == 0 {
			continue
		}
		coef, e := sum.inputText()
		if e != api.OK {
			return api.Row{}, e
		}
		row.Terms = append(row.Terms, api.Term{Name: name, Coef: coef})
	}
	bound := b.known(x.row.Bound).times(x.by).plus(b.known(y.row.Bound).times(y.by))
	var e api.Errno
	if row.Bound, e = bound.inputText(); e != api.OK {
		return api.Row{}, e
	}
	return row, api.OK
}
