package watch

import (
	"cmp"
	"iter"
	"math"
	"math/bits"
	"slices"

	"underpin/api"
)

// gaugeSet is a set of gauges of a quantity: a bit for each of their numbers.
type gaugeSet uint

// allGauges has all gauges that a quantity may have.
const allGauges gaugeSet = 1<<api.MaxGauges - 1

// has tells whether a gauge is in a set.
func (s gaugeSet) has(gauge int) bool {
	return s>>gauge&1 == 1
}

// numbers returns the numbers of the gauges in a set, in ascending order.
func (s gaugeSet) numbers() []int {
	var out []int
	for gauge := range api.MaxGauges {
		if s.has(gauge) {
			out = append(out, gauge)
		}
	}
	return out
}

// setsOf tells the sets of just so many of the first n gauges.
func setsOf(n, many int) iter.Seq[gaugeSet] {
	return func(yield func(gaugeSet) bool) {
		for s := range gaugeSet(1) << n {
			if bits.OnesCount(uint(s)) == many && !yield(s) {
				return
			}
		}
	}
}

// driftMinutes is how many minutes each Drift counts for.
const driftMinutes = 1000

// errorOf returns the error of a gauge at a time.
func errorOf(g api.Gauge, t int) int {
	begun := (max(t-g.Since, 0) + driftMinutes - 1) / driftMinutes
	return g.Acc + g.Drift*begun
}

// gate is where histories are at a time.
type gate struct {
	time int
	span api.Span
}

// openGate returns a gate that all histories pass.
func openGate(time int) gate {
	return gate{time, api.Span{Low: math.MinInt, High: math.MaxInt}}
}

// gateOf returns the gate that a reading of a gauge makes. If that has failed, all pass, but their values are told there, too.
func gateOf(q api.Quantity, r api.Reading, failed gaugeSet) gate {
	if failed.has(r.Gauge) {
		return openGate(r.Time)
	}
	off := errorOf(q.Gauges[r.Gauge], r.Time)
	return gate{r.Time, api.Span{Low: r.Value - off, High: r.Value + off}}
}

// course is gates in the order of their times, the first one at time 0; each has the values of all histories that pass all
// of them, and no others.
type course []gate

// explanations tells the sets of just so many gauges that may have failed, so that some history agrees with the readings of all
// others and passes more gates; and the courses of these histories.
func explanations(q api.Quantity, l []api.Reading, many int, more ...gate) iter.Seq2[gaugeSet, course] {
	return func(yield func(gaugeSet, course) bool) {
		for failed := range setsOf(len(q.Gauges), many) {
			gates := append([]gate{{0, q.Start}}, more...)
			for _, r := range l {
				gates = append(gates, gateOf(q, r, failed))
			}
			if c := courseOf(q, gates); len(c) > 0 && !yield(failed, c) {
				return
			}
		}
	}
}

// courseOf returns the course through gates, of which the first one is Start; none if no history passes all of them.
func courseOf(q api.Quantity, gates []gate) course {
	c := course(gates)
	slices.SortStableFunc(c, func(a, b gate) int { return cmp.Compare(a.time, b.time) })
	for i := 1; i < len(c); i++ {
		ahead, minutes := c[i-1].span, c[i].time-c[i-1].time
		c[i].span = common(c[i].span, api.Span{Low: ahead.Low - q.Fall*minutes, High: ahead.High + q.Rise*minutes})
		if c[i].span.Low > c[i].span.High {
			return nil
		}
	}
	// each value has a history that leads to it now; back from the last gate those go that lead no further
	for i := len(c) - 2; i >= 0; i-- {
		behind, minutes := c[i+1].span, c[i+1].time-c[i].time
		c[i].span = common(c[i].span, api.Span{Low: behind.Low - q.Rise*minutes, High: behind.High + q.Fall*minutes})
	}
	return c
}

// common returns the numbers that are in both of two spans.
func common(a, b api.Span) api.Span {
	return api.Span{Low: max(a.Low, b.Low), High: min(a.High, b.High)}
}

// at returns the values at the time of a gate.
func (c course) at(t int) api.Span {
	return c[slices.IndexFunc(c, func(g gate) bool { return g.time == t })].span
}

// history returns the values at readings of a history that passes all gates: that of the least values, of which each one
// can be reached from the one ahead, since both spans are narrowed by each other.
func (c course) history(l []api.Reading) []int {
	var out []int
	for _, r := range l {
		out = append(out, c.at(r.Time).Low)
	}
	return out
}

// possible returns the values at a time of the histories that explain readings.
func possible(q api.Quantity, l []api.Reading, t int) []api.Span {
	var spans []api.Span
	// fewer than Bad need not be tried: of a gauge more that has failed nothing is asked
	for _, c := range explanations(q, l, q.Bad, openGate(t)) {
		spans = append(spans, c.at(t))
	}
	return joined(spans)
}

// joined returns as few spans as can be with the same numbers, in ascending order.
func joined(spans []api.Span) []api.Span {
	slices.SortFunc(spans, func(a, b api.Span) int { return cmp.Compare(a.Low, b.Low) })
	var out []api.Span
	for _, s := range spans {
		last := len(out) - 1
		if last >= 0 && s.Low <= out[last].High+1 {
			out[last].High = max(out[last].High, s.High)
		} else {
			out = append(out, s)
		}
	}
	return out
}
