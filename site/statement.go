package site

import (
	"slices"

	"underpin/api"
	"underpin/exact"
)

// maxPlace is how far from 0 a place of a statement is at most.
const maxPlace = 999999

// sayingOf returns the statement of a ground with these layers that words say, as ground.Parse reads it: ErrForm, then
// ErrNone if its layer is none of them. (ground.Parse itself would ask for the whole ground again, which may have too long
// a text.)
func sayingOf(layers, words []string) api.Saying {
	switch {
	case words[0] == "top" && len(words) == 6:
		s := api.Saying{Kind: api.SaTop, Name: words[1], X: placeOf(words[2]), Low: fracOf(words[4]), High: fracOf(words[5])}
		s.Layer = numberIn(layers, words[3]) // behind all that the form says, which decides first
		return s
	case words[0] == "value" && len(words) == 6:
		s := api.Saying{Kind: api.SaTrait, Name: words[1], Trait: words[2], Low: fracOf(words[4]), High: fracOf(words[5])}
		s.Layer = numberIn(layers, words[3])
		return s
	case words[0] == "row" && len(words) >= 4 && len(words)%2 == 0:
		return api.Saying{Kind: api.SaRow, Name: words[1], Row: rowOf(words[2:])}
	}
	panic(wrong{api.ErrForm})
}

// rowOf returns the row that pairs of words, a relation and a bound say. (exact.Parse takes other relations, too, and none of
// the rows that are wrong otherwise.)
func rowOf(words []string) api.Row {
	relation := len(words) - 2
	need(words[relation] == "<=", api.ErrForm)
	row := api.Row{Bound: fracOf(words[relation+1])}
	for pair := range slices.Chunk(words[:relation], 2) {
		row.Terms = append(row.Terms, api.Term{Name: pair[1], Coef: fracOf(pair[0])})
	}
	return row
}

// placeOf returns the place that a word says.
func placeOf(word string) int {
	x, is := numberOf(word)
	need(is && x >= -maxPlace && x <= maxPlace, api.ErrForm)
	return x
}

// fracOf returns the number that a word says.
func fracOf(word string) api.Frac {
	need(exact.Valid(api.Frac(word)), api.ErrForm)
	return api.Frac(word)
}
