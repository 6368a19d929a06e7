package watch_test

import (
	"fmt"
	"math/rand"
	"reflect"
	"slices"
	"testing"

	"underpin/api"
	"underpin/watch"
)

// exampleQuantity is the quantity of the chapter.
func exampleQuantity() api.Quantity {
	return api.Quantity{
		Name:   "q",
		Rise:   2,
		Fall:   1,
		Bad:    1,
		Gauges: []api.Gauge{{Name: "a", Acc: 1}, {Name: "b", Acc: 1}, {Name: "c", Acc: 1}},
	}
}

// examplePlan has all that a plan may have.
func examplePlan() api.WatchPlan {
	return api.WatchPlan{
		Quantities: []api.Quantity{
			exampleQuantity(),
			{Name: "water", Start: api.Span{Low: -3, High: 4}, Rise: 1, Fall: 5, Gauges: []api.Gauge{{Name: "a", Acc: 2, Drift: 1, Since: 10}, {Name: "b-2"}}},
		},
		Measures: []api.Measure{
			{Name: "strut", Crew: "gang", Rank: 2, Lag: 5, Takes: 30},
			{Name: "pump", Crew: "night-1", Rank: 2, Lag: 10, Takes: 20},
			{Name: "prop", Crew: "gang", Rank: 1, Takes: 10},
		},
		Alarms: []api.Alarm{
			{Quantity: 0, Level: 10, Limit: 102, Measure: 0},
			{Quantity: 1, Level: 20, Limit: 51, Measure: 1},
		},
	}
}

const exampleText = `quantity q 0 0 2 1 1
gauge a 1 0 0
gauge b 1 0 0
gauge c 1 0 0
quantity water -3 4 1 5 0
gauge a 2 1 10
gauge b-2 0 0 0
measure strut gang 2 5 30
measure pump night-1 2 10 20
measure prop gang 1 0 10
alarm q 10 102 strut
alarm water 20 51 pump
`

// read is a reading of a gauge: a is the gauge 0.
func read(gauge rune, time, value int) api.Reading {
	return api.Reading{Gauge: int(gauge - 'a'), Time: time, Value: value}
}

// entries are entries of the readings of one quantity.
func entries(quantity int, l ...api.Reading) []api.Entry {
	var out []api.Entry
	for _, x := range l {
		out = append(out, api.Entry{Quantity: quantity, Reading: x})
	}
	return out
}

// copied returns a plan in memory of its own.
func copied(p api.WatchPlan) api.WatchPlan {
	out := api.WatchPlan{Quantities: slices.Clone(p.Quantities), Measures: slices.Clone(p.Measures), Alarms: slices.Clone(p.Alarms)}
	for i := range out.Quantities {
		out.Quantities[i].Gauges = slices.Clone(out.Quantities[i].Gauges)
	}
	return out
}

// equal fails unless both are equal (nil and empty lists are).
func equal(t testing.TB, what string, got, want any) {
	t.Helper()
	g, w := reflect.ValueOf(got), reflect.ValueOf(want)
	if g.Kind() == reflect.Slice && w.Kind() == reflect.Slice && g.Len() == 0 && w.Len() == 0 {
		return
	}
	if !reflect.DeepEqual(got, want) {
		t.Fatalf("%s: got %.3000s, want %.3000s", what, fmt.Sprint(got), fmt.Sprint(want))
	}
}

// said writes anything: nil and empty lists alike.
func said(l ...any) string {
	return fmt.Sprintf("%q", fmt.Sprintf("%v", l))
}

// alone fails if there is a result beside an error.
func alone(t testing.TB, what string, e api.Errno, results ...any) {
	t.Helper()
	for _, result := range results {
		if v := reflect.ValueOf(result); e != api.OK && !v.IsZero() && !(v.Kind() == reflect.Slice && v.Len() == 0) {
			t.Fatal(what, "has a result beside the error", e, result)
		}
	}
}

// mustPossible returns what Possible says.
func mustPossible(t testing.TB, q api.Quantity, l []api.Reading, at int) []api.Span {
	t.Helper()
	spans, e := watch.Possible(q, l, at)
	if e != api.OK {
		t.Fatal("Possible:", e, said(q, l, at))
	}
	return spans
}

// mustRun returns the events of a run.
func mustRun(t testing.TB, p api.WatchPlan, l []api.Entry, until int) []api.WatchEvent {
	t.Helper()
	events, e := watch.Run(p, l, until)
	if e != api.OK {
		t.Fatal("Run:", e, said(p, l, until))
	}
	return events
}

// includes tells whether a number is in spans.
func includes(spans []api.Span, x int) bool {
	return slices.ContainsFunc(spans, func(s api.Span) bool { return x >= s.Low && x <= s.High })
}

// errorAt is the error of a gauge, counted from 1000 minutes to the next.
func errorAt(g api.Gauge, t int) int {
	sum := g.Acc
	for from := g.Since; from < t; from += 1000 {
		sum += g.Drift
	}
	return sum
}

// hasFailed tells whether a gauge is in a set of gauges, which has a bit for each.
func hasFailed(set, gauge int) bool {
	return set>>gauge%2 == 1
}

// gaugesOf are the gauges of a set.
func gaugesOf(set int) []int {
	var out []int
	for gauge := range 16 {
		if hasFailed(set, gauge) {
			out = append(out, gauge)
		}
	}
	return out
}

// offset is how far below 0 the values of small quantities go.
const offset = 60

// values are the values of a small quantity at a minute.
type values [2 * offset]bool

// agreeing are the values with which no reading at a time disagrees, but of those gauges that have failed.
func agreeing(q api.Quantity, l []api.Reading, failed, t int) values {
	var out values
	for i := range out {
		x := i - offset
		out[i] = t > 0 || x >= q.Start.Low && x <= q.Start.High
		for _, r := range l {
			off := errorAt(q.Gauges[r.Gauge], t)
			if r.Time == t && !hasFailed(failed, r.Gauge) && (x < r.Value-off || x > r.Value+off) {
				out[i] = false
			}
		}
	}
	return out
}

// step tells whether a quantity may go from one value to another one in a minute.
func step(q api.Quantity, from, to int) bool {
	return to-from <= q.Rise && from-to <= q.Fall
}

// linked are those of some values that are a step from one of others.
func linked(some, others values, isStep func(one, other int) bool) values {
	var out values
	for i, is := range some {
		for k := 0; is && k < len(others) && !out[i]; k++ {
			out[i] = others[k] && isStep(i, k)
		}
	}
	return out
}

// minutes are the values that a small quantity may have at each minute up to the last one, if these gauges have failed: the
// histories are followed minute by minute, forth and back.
func minutes(q api.Quantity, l []api.Reading, failed, last int) []values {
	out := []values{agreeing(q, l, failed, 0)}
	for t := 1; t <= last; t++ {
		out = append(out, linked(agreeing(q, l, failed, t), out[t-1], func(to, from int) bool { return step(q, from, to) }))
	}
	for t := last - 1; t >= 0; t-- {
		out[t] = linked(out[t], out[t+1], func(from, to int) bool { return step(q, from, to) })
	}
	return out
}

// lastTime is the last time of readings, or a time behind it.
func lastTime(l []api.Reading, t int) int {
	for _, r := range l {
		t = max(t, r.Time)
	}
	return t
}

// spansOf are the spans of values.
func spansOf(v values) []api.Span {
	var out []api.Span
	for i, is := range v {
		x := i - offset
		switch {
		case !is:
		case i > 0 && v[i-1]:
			out[len(out)-1].High = x
		default:
			out = append(out, api.Span{Low: x, High: x})
		}
	}
	return out
}

// sizeOf is how many gauges are in a set.
func sizeOf(set int) int {
	return len(gaugesOf(set))
}

// randomQuantity makes a small quantity.
func randomQuantity(r *rand.Rand) api.Quantity {
	low := r.Intn(9) - 4
	q := api.Quantity{Name: "q", Start: api.Span{Low: low, High: low + r.Intn(4)}, Rise: r.Intn(4), Fall: r.Intn(4)}
	for i := range r.Intn(6) {
		g := api.Gauge{Name: fmt.Sprintf("g%d", i), Acc: r.Intn(2) * r.Intn(3), Drift: r.Intn(2) * r.Intn(2), Since: r.Intn(8)}
		q.Gauges = append(q.Gauges, g)
	}
	q.Bad = r.Intn(len(q.Gauges) + 1)
	return q
}

// randomHistory makes the values of a quantity at each time up to the last one.
func randomHistory(r *rand.Rand, q api.Quantity, last int) []int {
	x := q.Start.Low + r.Intn(q.Start.High-q.Start.Low+1)
	out := []int{x}
	for range last {
		switch r.Intn(3) {
		case 0:
			x += q.Rise
		case 1:
			x -= q.Fall
		default:
			x += r.Intn(q.Rise+q.Fall+1) - q.Fall
		}
		out = append(out, x)
	}
	return out
}

// randomFailures makes a set of at most Bad gauges.
func randomFailures(r *rand.Rand, q api.Quantity) int {
	set := 0
	for _, gauge := range r.Perm(len(q.Gauges))[:r.Intn(q.Bad+1)] {
		set |= 1 << gauge
	}
	return set
}

// reading makes a reading of a history; of a gauge that has failed it says anything.
func reading(r *rand.Rand, q api.Quantity, failed, gauge, t int, history []int) api.Reading {
	off := errorAt(q.Gauges[gauge], t)
	x := history[t] + r.Intn(2*off+1) - off
	if hasFailed(failed, gauge) {
		x += r.Intn(25) - 12
	}
	return api.Reading{Gauge: gauge, Time: t, Value: x}
}

// randomReadings makes readings of a history, in any order.
func randomReadings(r *rand.Rand, q api.Quantity, failed int, history []int) []api.Reading {
	var l []api.Reading
	times := []int{r.Intn(len(history)), r.Intn(len(history)), len(history) - 1}[r.Intn(3):]
	for range min(len(q.Gauges), 1) * r.Intn(10) {
		l = append(l, reading(r, q, failed, r.Intn(len(q.Gauges)), times[r.Intn(len(times))], history))
	}
	return l
}

// quarrel makes readings of some gauges at one time, each of which says something else than a history.
func quarrel(r *rand.Rand, q api.Quantity, history []int) []api.Reading {
	var l []api.Reading
	t := r.Intn(len(history))
	for gauge := range q.Gauges {
		if r.Intn(4) > 0 {
			l = append(l, api.Reading{Gauge: gauge, Time: t, Value: history[t] + r.Intn(13) - 6})
		}
	}
	return l
}
