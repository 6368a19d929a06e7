package works

import "underpin/api"

// maxSteps is how many steps a tally may have: a first one, and two for each task and for each span in which a resource is off.
// Of trains there are fewer.
const maxSteps = 1 + 2*(api.MaxTasks+api.MaxOffs)

// never is behind all times.
const never = api.MaxTime + 1

// step is how many pieces are in use from a minute on, to the minute of the next step.
type step struct{ from, used int }

// tally is how many pieces of something are in use in each minute.
type tally struct {
	steps [maxSteps]step // by their minutes, the first one from 0 on
	count int
	many  int // how many pieces there are
}

// newTally returns a tally of what nobody uses.
func newTally(many int) tally {
	return tally{count: 1, many: many}
}

// use adds pieces that are in use in all minutes of a span; it may be empty.
func (t *tally) use(s api.Span, pieces int) {
	if s.Low > s.High {
		return
	}
	first, end := t.cut(s.Low), t.cut(s.High+1)
	for i := first; i < end; i++ {
		t.steps[i].used += pieces
	}
}

// cut returns the number of the step that begins at a minute, and makes it if need be.
func (t *tally) cut(minute int) int {
	i := t.count
	for i > 0 && t.steps[i-1].from >= minute {
		i--
	}
	if i < t.count && t.steps[i].from == minute {
		return i
	}
	copy(t.steps[i+1:t.count+1], t.steps[i:t.count])
	t.steps[i] = step{minute, t.steps[i-1].used}
	t.count++
	return i
}

// end returns the minute behind a step.
func (t *tally) end(number int) int {
	if number+1 < t.count {
		return t.steps[number+1].from
	}
	return never
}

// isKept tells whether in no minute more pieces are in use than there are.
func (t *tally) isKept() bool {
	for _, s := range t.steps[:t.count] {
		if s.used > t.many {
			return false
		}
	}
	return true
}

// first returns the first minute, from one on, with which so many minutes begin in which pieces are left for something more.
func (t *tally) first(from, takes, pieces int) int {
	for i, s := range t.steps[:t.count] {
		if s.from >= from+takes {
			break
		}
		if s.used+pieces > t.many {
			from = max(from, t.end(i))
		}
	}
	return from
}

// free returns the spans in which a piece is left, up to the last time.
func (t *tally) free() []api.Span {
	var spans []api.Span
	for i, s := range t.steps[:t.count] {
		high := t.end(i) - 1
		if s.used >= t.many || high < s.from {
			continue
		}
		last := len(spans) - 1
		if last >= 0 && spans[last].High+1 == s.from {
			spans[last].High = high
		} else {
			spans = append(spans, api.Span{Low: s.from, High: high})
		}
	}
	return spans
}

// claim is how many pieces a task wants of what first searches.
type claim struct {
	first  func(from, takes, pieces int) int
	pieces int
}

// firstOf returns the first minute, from one on, with which so many minutes begin in which all claims are met.
func firstOf(from, takes int, claims []claim) int {
search:
	for {
		for _, c := range claims {
			if later := c.first(from, takes, c.pieces); later > from {
				from = later
				continue search // those ahead have to be asked again
			}
		}
		break search
	}
	return from
}
