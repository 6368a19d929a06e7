package ground

import (
	"iter"
	"slices"
	"strconv"
	"strings"

	"underpin/api"
	"underpin/exact"
)

// statement is what a saying says; each kind has a type of its own.
type statement interface {
	// check returns the error of what the kind names; the ground's stations, layers and traits have none.
	check(g api.Ground, known map[string]bool) api.Errno
	// rows tells the statement's rows.
	rows(g api.Ground) iter.Seq[api.Row]
	// words returns the words of the statement's line.
	words(g api.Ground) []string
	// named returns the saying without what its kind does not name.
	named() api.Saying
}

// Statements of the three kinds.
type (
	topSaying   api.Saying
	traitSaying api.Saying
	rowSaying   api.Saying
)

// statementOf returns what a saying says; false if its kind is not a listed one.
func statementOf(s api.Saying) (statement, bool) {
	switch s.Kind {
	case api.SaTop:
		return topSaying(s), true
	case api.SaTrait:
		return traitSaying(s), true
	case api.SaRow:
		return rowSaying(s), true
	}
	return nil, false
}

// sayingRows tells the rows of a saying, which has no error.
func sayingRows(g api.Ground, s api.Saying) iter.Seq[api.Row] {
	return func(yield func(api.Row) bool) {
		said, listed := statementOf(s)
		if !listed {
			return
		}
		for row := range said.rows(g) {
			if !yield(row) {
				return
			}
		}
	}
}

func (s topSaying) check(g api.Ground, known map[string]bool) api.Errno {
	if !hasTop(g, s.Layer) {
		return api.ErrNone
	}
	if !within(g, s.X) {
		return api.ErrScope
	}
	return checkRange(s.Low, s.High)
}

func (s topSaying) rows(g api.Ground) iter.Seq[api.Row] {
	return between(topTerms(g, s.X, s.Layer), s.Low, s.High)
}

func (s topSaying) words(g api.Ground) []string {
	return []string{"top", s.Name, strconv.Itoa(s.X), g.Layers[s.Layer], string(s.Low), string(s.High)}
}

func (s topSaying) named() api.Saying {
	return api.Saying{Name: s.Name, Kind: s.Kind, X: s.X, Layer: s.Layer, Low: s.Low, High: s.High}
}

func (s traitSaying) check(g api.Ground, known map[string]bool) api.Errno {
	isIt := func(t api.Trait) bool { return t.Name == s.Trait }
	if s.Layer < 0 || s.Layer >= len(g.Layers) || !slices.ContainsFunc(g.Traits, isIt) {
		return api.ErrNone
	}
	return checkRange(s.Low, s.High)
}

func (s traitSaying) rows(g api.Ground) iter.Seq[api.Row] {
	return between(single(traitName(s.Trait, s.Layer), "1"), s.Low, s.High)
}

func (s traitSaying) words(g api.Ground) []string {
	return []string{"value", s.Name, s.Trait, g.Layers[s.Layer], string(s.Low), string(s.High)}
}

func (s traitSaying) named() api.Saying {
	return api.Saying{Name: s.Name, Kind: s.Kind, Layer: s.Layer, Trait: s.Trait, Low: s.Low, High: s.High}
}

func (s rowSaying) check(g api.Ground, known map[string]bool) api.Errno {
	if e := checkTerms(s.Row.Terms); e != api.OK {
		return e
	}
	if e := checkNumber(s.Row.Bound); e != api.OK {
		return e
	}
	if !knows(known, s.Row.Terms) {
		return api.ErrNone
	}
	return api.OK
}

func (s rowSaying) rows(g api.Ground) iter.Seq[api.Row] {
	return func(yield func(api.Row) bool) {
		yield(copiedRow(s.Row))
	}
}

func (s rowSaying) words(g api.Ground) []string {
	text, _ := exact.Print([]api.Row{s.Row})
	return []string{"row", s.Name, strings.TrimSuffix(text, "\n")}
}

func (s rowSaying) named() api.Saying {
	return api.Saying{Name: s.Name, Kind: s.Kind, Row: s.Row}
}

// sameSaying tells whether two sayings are equal in all fields.
func sameSaying(s, t api.Saying) bool {
	apart := s.Name != t.Name || s.Kind != t.Kind || s.X != t.X || s.Layer != t.Layer || s.Trait != t.Trait || s.Low != t.Low || s.High != t.High
	return !apart && slices.Equal(s.Row.Terms, t.Row.Terms) && s.Row.Bound == t.Row.Bound
}

// copiedRow returns a row in memory of its own.
func copiedRow(row api.Row) api.Row {
	row.Terms = slices.Clone(row.Terms)
	return row
}
