package watch_test

import (
	"fmt"
	"math"
	"slices"
	"strings"
	"testing"

	"underpin/api"
	"underpin/watch"
)

// water is the second quantity of the example, second its second gauge, pump its second measure, alarm its second alarm.
func water(p *api.WatchPlan) *api.Quantity { return &p.Quantities[1] }
func second(p *api.WatchPlan) *api.Gauge   { return &water(p).Gauges[1] }
func pump(p *api.WatchPlan) *api.Measure   { return &p.Measures[1] }
func alarm(p *api.WatchPlan) *api.Alarm    { return &p.Alarms[1] }

// wrongPlan is a change of the example with the error that it makes. Parts are in the order of Check; own tells that the
// quantity is wrong by itself.
type wrongPlan struct {
	part, what string
	own        bool
	change     func(p *api.WatchPlan)
	want       api.Errno
}

const outside = api.MaxValue + 1

// wrongQuantities are those of quantities.
var wrongQuantities = []wrongPlan{
	{"quantities", "17 quantities", false, func(p *api.WatchPlan) { p.Quantities = make([]api.Quantity, 17) }, api.ErrLimit},
	{"name", "no name", true, func(p *api.WatchPlan) { water(p).Name = "" }, api.ErrName},
	{"name", "17 bytes", true, func(p *api.WatchPlan) { water(p).Name = strings.Repeat("w", 17) }, api.ErrName},
	{"name", "a great letter", true, func(p *api.WatchPlan) { water(p).Name = "waTer" }, api.ErrName},
	{"name", "a digit ahead", true, func(p *api.WatchPlan) { water(p).Name = "1w" }, api.ErrName},
	{"name", "- ahead", true, func(p *api.WatchPlan) { water(p).Name = "-w" }, api.ErrName},
	{"name", "a blank", true, func(p *api.WatchPlan) { water(p).Name = "w w" }, api.ErrName},
	{"name", "any bytes", true, func(p *api.WatchPlan) { water(p).Name = "w\x00\xff" }, api.ErrName},
	{"name", "behind z", true, func(p *api.WatchPlan) { water(p).Name = "w{" }, api.ErrName},
	{"name", "ahead of a", true, func(p *api.WatchPlan) { water(p).Name = "`w" }, api.ErrName},
	{"name", "behind 9", true, func(p *api.WatchPlan) { water(p).Name = "w:" }, api.ErrName},
	{"name", "ahead of 0", true, func(p *api.WatchPlan) { water(p).Name = "w/" }, api.ErrName},
	{"twice", "a name twice", false, func(p *api.WatchPlan) { water(p).Name = "q" }, api.ErrTwice},
	{"start", "Low below all values", true, func(p *api.WatchPlan) { water(p).Start.Low = -outside }, api.ErrArg},
	{"start", "High above all values", true, func(p *api.WatchPlan) { water(p).Start.High = outside }, api.ErrArg},
	{"start", "Low above all values", true, func(p *api.WatchPlan) { water(p).Start = api.Span{Low: outside, High: outside} }, api.ErrArg},
	{"start", "High below all values", true, func(p *api.WatchPlan) { water(p).Start = api.Span{Low: -outside, High: -outside} }, api.ErrArg},
	{"start", "Low above High", true, func(p *api.WatchPlan) { water(p).Start = api.Span{Low: 5, High: 4} }, api.ErrArg},
	{"start", "as far as can be", true, func(p *api.WatchPlan) { water(p).Start = api.Span{Low: math.MinInt, High: math.MaxInt} }, api.ErrArg},
	{"rates", "Rise below 0", true, func(p *api.WatchPlan) { water(p).Rise = -1 }, api.ErrArg},
	{"rates", "Rise too great", true, func(p *api.WatchPlan) { water(p).Rise = api.MaxRate + 1 }, api.ErrArg},
	{"rates", "Fall below 0", true, func(p *api.WatchPlan) { water(p).Fall = -1 }, api.ErrArg},
	{"rates", "Fall too great", true, func(p *api.WatchPlan) { water(p).Fall = math.MaxInt }, api.ErrArg},
	{"gauges", "9 gauges", true, func(p *api.WatchPlan) { water(p).Gauges = make([]api.Gauge, 9) }, api.ErrLimit},
	{"bad", "Bad below 0", true, func(p *api.WatchPlan) { water(p).Bad = -1 }, api.ErrArg},
	{"bad", "more Bad than gauges", true, func(p *api.WatchPlan) { water(p).Bad = len(water(p).Gauges) + 1 }, api.ErrArg},
	{"gauge name", "no name", true, func(p *api.WatchPlan) { second(p).Name = "" }, api.ErrName},
	{"gauge name", "17 bytes", true, func(p *api.WatchPlan) { second(p).Name = strings.Repeat("b", 17) }, api.ErrName},
	{"gauge twice", "a gauge twice", true, func(p *api.WatchPlan) { second(p).Name = "a" }, api.ErrTwice},
	{"gauge", "Acc below 0", true, func(p *api.WatchPlan) { second(p).Acc = -1 }, api.ErrArg},
	{"gauge", "Acc too great", true, func(p *api.WatchPlan) { second(p).Acc = outside }, api.ErrArg},
	{"gauge", "Drift below 0", true, func(p *api.WatchPlan) { second(p).Drift = -1 }, api.ErrArg},
	{"gauge", "Drift too great", true, func(p *api.WatchPlan) { second(p).Drift = outside }, api.ErrArg},
	{"gauge", "Since below 0", true, func(p *api.WatchPlan) { second(p).Since = -1 }, api.ErrArg},
	{"gauge", "Since behind all times", true, func(p *api.WatchPlan) { second(p).Since = api.MaxTime + 1 }, api.ErrArg},
}

// wrongOthers are those of measures and alarms.
var wrongOthers = []wrongPlan{
	{"measures", "17 measures", false, func(p *api.WatchPlan) { p.Measures = make([]api.Measure, 17) }, api.ErrLimit},
	{"measure name", "no name", false, func(p *api.WatchPlan) { pump(p).Name = "" }, api.ErrName},
	{"measure name", "no crew", false, func(p *api.WatchPlan) { pump(p).Crew = "" }, api.ErrName},
	{"measure name", "a crew of 17 bytes", false, func(p *api.WatchPlan) { pump(p).Crew = strings.Repeat("c", 17) }, api.ErrName},
	{"measure twice", "a measure twice", false, func(p *api.WatchPlan) { pump(p).Name = "strut" }, api.ErrTwice},
	{"measure", "Rank below 0", false, func(p *api.WatchPlan) { pump(p).Rank = -1 }, api.ErrArg},
	{"measure", "Rank too great", false, func(p *api.WatchPlan) { pump(p).Rank = api.MaxTime + 1 }, api.ErrArg},
	{"measure", "Lag below 0", false, func(p *api.WatchPlan) { pump(p).Lag = -1 }, api.ErrArg},
	{"measure", "Lag too great", false, func(p *api.WatchPlan) { pump(p).Lag = api.MaxTime + 1 }, api.ErrArg},
	{"measure", "Takes below 0", false, func(p *api.WatchPlan) { pump(p).Takes = -1 }, api.ErrArg},
	{"measure", "Takes too great", false, func(p *api.WatchPlan) { pump(p).Takes = api.MaxTime + 1 }, api.ErrArg},
	{"clash", "a rank of a crew twice", false, func(p *api.WatchPlan) { pump(p).Crew, pump(p).Rank = "gang", 2 }, api.ErrClash},
	{"alarms", "17 alarms", false, func(p *api.WatchPlan) { p.Alarms = make([]api.Alarm, 17) }, api.ErrLimit},
	{"alarm", "no quantity", false, func(p *api.WatchPlan) { alarm(p).Quantity = 2 }, api.ErrNone},
	{"alarm", "a quantity below 0", false, func(p *api.WatchPlan) { alarm(p).Quantity = -1 }, api.ErrNone},
	{"alarm", "no measure", false, func(p *api.WatchPlan) { alarm(p).Measure = 3 }, api.ErrNone},
	{"alarm", "a measure below 0", false, func(p *api.WatchPlan) { alarm(p).Measure = -1 }, api.ErrNone},
	{"alarm", "a measure far off", false, func(p *api.WatchPlan) { alarm(p).Measure = math.MaxInt }, api.ErrNone},
	{"levels", "Level too great", false, func(p *api.WatchPlan) { alarm(p).Level = outside }, api.ErrArg},
	{"levels", "Level too small", false, func(p *api.WatchPlan) { alarm(p).Level = -outside }, api.ErrArg},
	{"levels", "Limit too great", false, func(p *api.WatchPlan) { alarm(p).Limit = outside }, api.ErrArg},
	{"levels", "Limit too small", false, func(p *api.WatchPlan) { alarm(p).Limit = -outside }, api.ErrArg},
	{"alarm twice", "a measure twice", false, func(p *api.WatchPlan) { alarm(p).Measure = 0 }, api.ErrTwice},
}

// wrongPlans are all of them.
func wrongPlans() []wrongPlan {
	return slices.Concat(wrongQuantities, wrongOthers)
}

// planErrors calls all functions that check a plan, fails if there is a result beside an error, and returns the errors. Whatever
// they check behind the plan is wrong.
func planErrors(t *testing.T, p api.WatchPlan) []api.Errno {
	t.Helper()
	check := watch.Check(p)
	text, e := watch.Print(p)
	alone(t, "Print", e, text)
	response, f := watch.Response(p, 99)
	alone(t, "Response", f, response)
	late, g := watch.Late(p)
	alone(t, "Late", g, late)
	events, h := watch.Run(p, make([]api.Entry, 513), -1)
	alone(t, "Run", h, events)
	return []api.Errno{check, e, f, g, h}
}

// quantityErrors does so with all functions that check a quantity.
func quantityErrors(t *testing.T, q api.Quantity) []api.Errno {
	t.Helper()
	l := make([]api.Reading, 65)
	spans, e := watch.Possible(q, l, -1)
	alone(t, "Possible", e, spans)
	failed, values, ok, f := watch.Witness(q, l, -1, 0)
	alone(t, "Witness", f, failed, values, ok)
	surely, perhaps, g := watch.Suspects(q, l)
	alone(t, "Suspects", g, surely, perhaps)
	margin, h := watch.Margin(q, 0, -1)
	alone(t, "Margin", h, margin)
	return []api.Errno{e, f, g, h}
}

// TestCheck: P7.1 and P7.2, each function returns the error of its plan or quantity, ahead of all others.
func TestCheck(t *testing.T) {
	equal(t, "the example", watch.Check(examplePlan()), api.OK)
	equal(t, "nothing", watch.Check(api.WatchPlan{}), api.OK)
	for _, c := range wrongPlans() {
		p := examplePlan()
		c.change(&p)
		equal(t, c.part+": "+c.what, planErrors(t, p), slices.Repeat([]api.Errno{c.want}, 5))
		if c.own {
			equal(t, c.part+": "+c.what, quantityErrors(t, *water(&p)), slices.Repeat([]api.Errno{c.want}, 4))
		}
	}
}

// TestCheckOrder: P7.1 and R1, of the errors in two parts the first one counts.
func TestCheckOrder(t *testing.T) {
	all := wrongPlans()
	for i, first := range all {
		for _, then := range all[i+1:] {
			if first.part == then.part {
				continue
			}
			p := examplePlan()
			then.change(&p)
			first.change(&p)
			equal(t, first.what+" ahead of "+then.what, watch.Check(p), first.want)
		}
	}
}

// TestCheckElements: R1, of the errors in two elements that of the first one counts.
func TestCheckElements(t *testing.T) {
	p := examplePlan()
	p.Quantities[0].Gauges[2].Since, water(&p).Name = -1, ""
	equal(t, "quantities", watch.Check(p), api.ErrArg)
	p = examplePlan()
	water(&p).Gauges[0].Drift, second(&p).Name = -1, ""
	equal(t, "gauges", watch.Check(p), api.ErrArg)
	p = examplePlan()
	pump(&p).Crew, pump(&p).Rank, p.Measures[2].Name = "gang", 2, ""
	equal(t, "measures", watch.Check(p), api.ErrClash)
	p = examplePlan()
	p.Alarms[0].Level, alarm(&p).Quantity = outside, 9
	equal(t, "alarms", watch.Check(p), api.ErrArg)
}

// largest is a plan with as much as there may be of everything.
func largest() api.WatchPlan {
	var p api.WatchPlan
	name := func(i int) string { return fmt.Sprintf("z%s%02d", strings.Repeat("-", api.MaxName-3), i) }
	for i := range api.MaxQuantities {
		q := api.Quantity{Name: name(i), Start: api.Span{Low: -api.MaxValue, High: api.MaxValue}, Rise: api.MaxRate, Fall: api.MaxRate, Bad: api.MaxGauges}
		for k := range api.MaxGauges {
			q.Gauges = append(q.Gauges, api.Gauge{Name: name(k), Acc: api.MaxValue, Drift: api.MaxValue, Since: api.MaxTime})
		}
		p.Quantities = append(p.Quantities, q)
	}
	for i := range api.MaxMeasures {
		p.Measures = append(p.Measures, api.Measure{Name: name(i), Crew: name(0), Rank: api.MaxTime - i, Lag: api.MaxTime, Takes: api.MaxTime})
	}
	for i := range api.MaxAlarms {
		p.Alarms = append(p.Alarms, api.Alarm{Quantity: 15, Level: -api.MaxValue, Limit: api.MaxValue, Measure: i})
	}
	return p
}

// TestCheckLimits: P7.1 and R7, limits are allowed themselves; names and ranks may come again in another place.
func TestCheckLimits(t *testing.T) {
	equal(t, "the largest plan", watch.Check(largest()), api.OK)
	p := examplePlan()
	water(&p).Start, water(&p).Bad = api.Span{Low: 4, High: 4}, 2
	water(&p).Gauges[0].Name, p.Measures[0].Name, p.Measures[0].Crew = "water", "water", "water"
	equal(t, "the same name for different things", watch.Check(p), api.OK)
	p.Quantities[0].Gauges = nil
	p.Quantities[0].Bad = 0
	equal(t, "no gauges", watch.Check(p), api.OK)
}

// wrongReadings are lists of readings of the example's quantity with their errors.
var wrongReadings = []struct {
	what string
	l    []api.Reading
	want api.Errno
}{
	{"65 readings that are none", slices.Repeat([]api.Reading{{Gauge: 9}}, 65), api.ErrLimit},
	{"no gauge", []api.Reading{{Gauge: 3}}, api.ErrNone},
	{"a gauge below 0", []api.Reading{{Gauge: -1, Time: -1}}, api.ErrNone},
	{"a gauge far off", []api.Reading{{Gauge: math.MaxInt}}, api.ErrNone},
	{"a time below 0", []api.Reading{read('a', -1, 0)}, api.ErrArg},
	{"a time behind all", []api.Reading{read('a', api.MaxTime+1, 0)}, api.ErrArg},
	{"a value too great", []api.Reading{read('a', 0, outside)}, api.ErrArg},
	{"a value too small", []api.Reading{read('a', 0, -outside)}, api.ErrArg},
	{"a value as small as can be", []api.Reading{read('a', 0, math.MinInt)}, api.ErrArg},
	{"the first of two", []api.Reading{read('a', -1, 0), {Gauge: 3}}, api.ErrArg},
	{"the second of two", []api.Reading{read('c', 0, 0), {Gauge: 3}}, api.ErrNone},
}

// TestCheckReadings: P7.2, the errors of readings, and of the times that are asked for.
func TestCheckReadings(t *testing.T) {
	q := exampleQuantity()
	for _, c := range wrongReadings {
		spans, e := watch.Possible(q, c.l, -1)
		alone(t, "Possible", e, spans)
		failed, values, ok, f := watch.Witness(q, c.l, -1, 0)
		alone(t, "Witness", f, failed, values, ok)
		surely, perhaps, g := watch.Suspects(q, c.l)
		alone(t, "Suspects", g, surely, perhaps)
		equal(t, c.what, []api.Errno{e, f, g}, slices.Repeat([]api.Errno{c.want}, 3))
	}
	for _, at := range []int{-1, api.MaxTime + 1, math.MinInt, math.MaxInt} {
		spans, e := watch.Possible(q, nil, at)
		alone(t, "Possible", e, spans)
		failed, values, ok, f := watch.Witness(q, nil, at, 0)
		alone(t, "Witness", f, failed, values, ok)
		margin, g := watch.Margin(q, 1, at)
		alone(t, "Margin", g, margin)
		equal(t, fmt.Sprint("the time ", at), []api.Errno{e, f, g}, slices.Repeat([]api.Errno{api.ErrArg}, 3))
	}
	_, e := watch.Possible(q, slices.Repeat([]api.Reading{read('a', api.MaxTime, api.MaxValue)}, 64), api.MaxTime)
	equal(t, "64 readings", e, api.OK)
}

// wrongRuns are logs of the example with their errors.
var wrongRuns = []struct {
	what  string
	l     []api.Entry
	until int
	want  api.Errno
}{
	{"513 entries that are none", slices.Repeat([]api.Entry{{Quantity: 9}}, 513), -1, api.ErrLimit},
	{"no quantity", []api.Entry{{Quantity: 2, Reading: read('a', -1, 0)}}, -1, api.ErrNone},
	{"a quantity below 0", []api.Entry{{Quantity: -1}}, -1, api.ErrNone},
	{"a quantity far off", []api.Entry{{Quantity: math.MaxInt}}, -1, api.ErrNone},
	{"no gauge of this quantity", entries(1, read('c', -1, 0)), -1, api.ErrNone},
	{"a time below 0", entries(1, read('a', -1, 0)), -1, api.ErrArg},
	{"a time behind all", entries(1, read('a', api.MaxTime+1, 0)), -1, api.ErrArg},
	{"a value too great", entries(1, read('a', 1, outside)), -1, api.ErrArg},
	{"back in time", slices.Concat(entries(0, read('c', 2, 0)), entries(1, read('a', 1, 0))), -1, api.ErrState},
	{"back in time, and a value too great", entries(0, read('c', 2, 0), read('a', 1, outside)), -1, api.ErrArg},
	{"back in time ahead of no quantity", append(entries(0, read('c', 2, 0), read('c', 1, 0)), api.Entry{Quantity: 2}), -1, api.ErrState},
	{"65 readings, and back in time", entries(0, append(slices.Repeat([]api.Reading{read('a', 2, 0)}, 65), read('a', 1, 0))...), 9, api.ErrState},
	{"65 readings until no time", entries(0, slices.Repeat([]api.Reading{read('a', 2, 0)}, 65)...), -1, api.ErrArg},
	{"until behind all times", nil, api.MaxTime + 1, api.ErrArg},
	{"until as far as can be", nil, math.MaxInt, api.ErrArg},
	{"65 readings", entries(0, slices.Repeat([]api.Reading{read('a', 2, 0)}, 65)...), 0, api.ErrLimit},
	{"65 readings of the second quantity", slices.Concat(entries(0, read('a', 1, 0)), entries(1, slices.Repeat([]api.Reading{read('a', 2, 0)}, 65)...)), 1, api.ErrLimit},
}

// TestCheckRun: P7.3, the errors of logs.
func TestCheckRun(t *testing.T) {
	for _, c := range wrongRuns {
		events, e := watch.Run(examplePlan(), c.l, c.until)
		alone(t, c.what, e, events)
		equal(t, c.what, e, c.want)
	}
	for _, measure := range []int{-1, 3, math.MinInt, math.MaxInt} {
		response, e := watch.Response(examplePlan(), measure)
		equal(t, "no measure", []any{response, e}, []any{0, api.ErrNone})
	}
	both := slices.Concat(entries(0, slices.Repeat([]api.Reading{read('a', 2, 0)}, 64)...), entries(1, slices.Repeat([]api.Reading{read('a', 2, 0)}, 64)...))
	_, e := watch.Run(examplePlan(), both, 0)
	equal(t, "64 readings of each quantity", e, api.OK)
	var full []api.Entry
	for i := range 8 {
		full = append(full, entries(i, slices.Repeat([]api.Reading{read('a', api.MaxTime, 0)}, 64)...)...)
	}
	_, e = watch.Run(largest(), full, 0)
	equal(t, "512 entries", e, api.OK)
}
