package watch_test

import (
	"fmt"
	"math"
	"math/rand"
	"reflect"
	"slices"
	"strings"
	"sync"
	"testing"

	"underpin/api"
	"underpin/watch"
)

// TestSound: P7.4 and P0.1, a quantity is where Possible says, whatever it does; a reading more adds no value.
func TestSound(t *testing.T) {
	r := rand.New(rand.NewSource(76))
	failures, fewer := 0, 0
	for range 3000 {
		q := randomQuantity(r)
		history := randomHistory(r, q, 30)
		failed := randomFailures(r, q)
		l := randomReadings(r, q, failed, history)
		failures += sizeOf(failed)
		at := r.Intn(len(history))
		var ahead []api.Span
		for n := range len(l) + 1 {
			spans := mustPossible(t, q, l[:n], at)
			if !includes(spans, history[at]) {
				t.Fatal("it is elsewhere:", said(q, l[:n], at, spans), history)
			}
			for _, s := range spans {
				for _, x := range []int{s.Low, s.High, s.Low + r.Intn(s.High-s.Low+1)} {
					found, values, ok := wayTo(t, q, l[:n], at, x)
					equal(t, said(q, l[:n], at, x), ok, true)
					checkWitness(t, q, l[:n], at, x, found, values)
				}
				if n > 0 && !slices.ContainsFunc(ahead, func(a api.Span) bool { return a.Low <= s.Low && a.High >= s.High }) {
					t.Fatal("a reading adds a value:", said(q, l[:n], at, ahead, spans))
				}
			}
			if n > 0 && !reflect.DeepEqual(ahead, spans) {
				fewer++
			}
			ahead = spans
		}
	}
	if failures < 300 || fewer < 300 {
		t.Error("too few:", failures, fewer)
	}
}

// TestReadingsMore: P7.4, a reading of any kind, also one that quarrels with all others, adds no value.
func TestReadingsMore(t *testing.T) {
	r := rand.New(rand.NewSource(77))
	for range 2000 {
		q := randomQuantity(r)
		l := quarrel(r, q, randomHistory(r, q, 9))
		at := r.Intn(12)
		for n := range l {
			ahead, spans := mustPossible(t, q, l[:n], at), mustPossible(t, q, l[:n+1], at)
			for _, s := range spans {
				if !slices.ContainsFunc(ahead, func(a api.Span) bool { return a.Low <= s.Low && a.High >= s.High }) {
					t.Fatal("a reading adds a value:", said(q, l[:n+1], at, ahead, spans))
				}
			}
		}
	}
}

// TestQuiet: P7.5, what Possible says is at most Margin above the quantity.
func TestQuiet(t *testing.T) {
	r := rand.New(rand.NewSource(78))
	asked, reached := 0, 0
	for range 4000 {
		q := randomQuantity(r)
		q.Bad = min(q.Bad, (len(q.Gauges)-1)/2)
		if len(q.Gauges) == 0 {
			continue
		}
		history := randomHistory(r, q, 30)
		failed := randomFailures(r, q)
		l := randomReadings(r, q, failed, history)
		period := 1 + r.Intn(6)
		at := period + r.Intn(len(history)-period)
		for gauge := range q.Gauges {
			l = append(l, reading(r, q, failed, gauge, at-r.Intn(period+1), history))
		}
		l = slices.DeleteFunc(l, func(x api.Reading) bool { return x.Time > at || hasFailed(failed, x.Gauge) && r.Intn(3) == 0 })
		margin, e := watch.Margin(q, period, at)
		equal(t, "error", e, api.OK)
		spans := mustPossible(t, q, l, at)
		above := spans[len(spans)-1].High - history[at]
		if asked++; above > margin {
			t.Fatal("too far above:", said(q, l, at, spans, margin), history[at])
		}
		if above == margin {
			reached++
		}
	}
	if asked < 2000 || reached < 20 {
		t.Error("too few:", asked, reached)
	}
}

// outcome is when things of a run came.
type outcome struct{ raised, began, done map[int]int }

// outcomeOf gathers events: alarms by their measures.
func outcomeOf(p api.WatchPlan, l []api.WatchEvent) outcome {
	o := outcome{map[int]int{}, map[int]int{}, map[int]int{}}
	for _, x := range l {
		switch x.Kind {
		case api.WeAlarm:
			o.raised[p.Alarms[x.Number].Measure] = x.Time
		case api.WeBegin:
			o.began[x.Number] = x.Time
		case api.WeDone:
			o.done[x.Number] = x.Time
		}
	}
	return o
}

// TestNeverLate: P7.6 and P0.4, whatever quantities do, and whichever gauges fail.
func TestNeverLate(t *testing.T) {
	r := rand.New(rand.NewSource(79))
	const last = 100
	inTime, reached, waited := 0, 0, 0
	for range 1500 {
		p, histories, failures := busyPlan(r, last)
		o := outcomeOf(p, mustRun(t, p, readAll(r, p, histories, failures), last))
		late, e := watch.Late(p)
		equal(t, "error", e, api.OK)
		for i, a := range p.Alarms {
			raised, isRaised := o.raised[a.Measure]
			done, isDone := o.done[a.Measure]
			if at := slices.IndexFunc(histories[a.Quantity], func(x int) bool { return x >= a.Level }); at >= 0 {
				if reached++; !isRaised || raised > at {
					t.Fatal("the alarm is late:", said(p, i, raised, at), histories[a.Quantity])
				}
			}
			response, e := watch.Response(p, a.Measure)
			equal(t, "error", e, api.OK)
			if isRaised && raised+response <= last && (!isDone || done > raised+response) {
				t.Fatal("the measure is late:", said(p, i, raised, response, done))
			}
			if isDone && done-raised > p.Measures[a.Measure].Lag+p.Measures[a.Measure].Takes {
				waited++
			}
			if slices.Contains(late, i) {
				continue
			}
			inTime++
			for now, x := range histories[a.Quantity] {
				if x > a.Limit && (!isDone || now <= done) {
					t.Fatal("the limit is passed:", said(p, i, now, x, done))
				}
			}
		}
	}
	if inTime < 300 || reached < 300 || waited < 50 {
		t.Error("too few:", inTime, reached, waited)
	}
}

// TestJustInTime: P7.6, all that holds a measure up comes together: something else has just begun, and something more urgent
// comes then.
func TestJustInTime(t *testing.T) {
	q := api.Quantity{Name: "q", Rise: 7, Bad: 1, Gauges: []api.Gauge{{Name: "a"}, {Name: "b"}, {Name: "c"}}}
	p := api.WatchPlan{
		Quantities: []api.Quantity{q, {Name: "other", Rise: 1}},
		Measures:   []api.Measure{{Name: "m", Crew: "c", Rank: 1, Lag: 4, Takes: 10}, {Name: "urgent", Crew: "c", Takes: 20}, {Name: "under-way", Crew: "c", Rank: 2, Takes: 30}},
		Alarms:     []api.Alarm{{Quantity: 0, Level: 100, Limit: 555, Measure: 0}, {Quantity: 1, Level: 58, Limit: 999, Measure: 1}, {Quantity: 1, Level: 28, Limit: 999, Measure: 2}},
	}
	// q is 1 at 10, as two gauges say, and rises from then on, so that it is 99 at 24
	l := entries(0, read('a', 10, 1), read('b', 10, 1), read('c', 10, 0))
	o := outcomeOf(p, mustRun(t, p, l, 99))
	equal(t, "raised", []int{o.raised[0], o.raised[2], o.raised[1]}, []int{25, 28, 58})
	equal(t, "done", []int{o.done[2], o.done[1], o.done[0]}, []int{58, 78, 88})
	response, e := watch.Response(p, 0)
	equal(t, "the response", []any{response, e}, []any{64, api.OK}) // it took 63: a minute of what was under way was over when m was ready
	late, e := watch.Late(p)
	equal(t, "no alarm is late", []any{len(late), e}, []any{0, api.OK})
	p.Alarms[0].Limit--
	late, e = watch.Late(p)
	equal(t, "one is", []any{late, e}, []any{[]int{0}, api.OK})
}

// call is what functions are called with.
type call struct {
	p           api.WatchPlan
	l           []api.Entry
	readings    []api.Reading // of the first quantity
	at, x, many int
}

// quantity is the first quantity of a call's plan.
func (c call) quantity() api.Quantity {
	if len(c.p.Quantities) == 0 {
		return api.Quantity{}
	}
	return c.p.Quantities[0]
}

// results calls all functions, fails if one of them has a result beside an error, and returns what they return.
func (c call) results(t testing.TB) []any {
	t.Helper()
	var all []any
	keep := func(what string, e api.Errno, l ...any) {
		t.Helper()
		alone(t, what, e, l...)
		all = append(all, append(l, e)...)
	}
	keep("Check", api.OK, watch.Check(c.p), watch.Same(c.p, c.p))
	text, e := watch.Print(c.p)
	keep("Print", e, text)
	back, line, e := watch.Parse(text)
	keep("Parse", e, back)
	keep("Parse", api.OK, line)
	q := c.quantity()
	for _, g := range q.Gauges {
		off, e := watch.Error(g, c.at)
		keep("Error", e, off)
	}
	spans, e := watch.Possible(q, c.readings, c.at)
	keep("Possible", e, spans)
	failed, values, ok, e := watch.Witness(q, c.readings, c.at, c.x)
	keep("Witness", e, failed, values, ok)
	surely, perhaps, e := watch.Suspects(q, c.readings)
	keep("Suspects", e, surely, perhaps)
	margin, e := watch.Margin(q, c.many, c.at)
	keep("Margin", e, margin)
	response, e := watch.Response(c.p, c.many)
	keep("Response", e, response)
	late, e := watch.Late(c.p)
	keep("Late", e, late)
	events, e := watch.Run(c.p, c.l, min(c.at, 200))
	keep("Run", e, events)
	return all
}

// randomCall makes arguments without errors.
func randomCall(r *rand.Rand) call {
	p, histories, failures := busyPlan(r, 40)
	c := call{p: p, l: readAll(r, p, histories, failures), at: r.Intn(50), x: r.Intn(20), many: r.Intn(6)}
	c.readings = randomReadings(r, p.Quantities[0], failures[0], histories[0])
	return c
}

// TestArgumentsAndTwins: R4 and R10, no argument changes, and equal calls return equal results.
func TestArgumentsAndTwins(t *testing.T) {
	r := rand.New(rand.NewSource(80))
	for range 200 {
		c := randomCall(r)
		before := fmt.Sprintf("%#v", c)
		first := said(c.results(t))
		equal(t, "arguments", fmt.Sprintf("%#v", c), before)
		equal(t, "twins", said(c.results(t)), first)
	}
}

// TestManyAtOnce: R10, calls at the same time do not influence one another.
func TestManyAtOnce(t *testing.T) {
	c := randomCall(rand.New(rand.NewSource(81)))
	want := said(c.results(t))
	var all sync.WaitGroup
	got := make([]string, 8)
	for i := range got {
		all.Go(func() { got[i] = said(c.results(t)) })
	}
	all.Wait()
	for _, s := range got {
		equal(t, "at once", s, want)
	}
}

// place is where a list lies in memory.
type place struct{ from, to uintptr }

// places returns where all lists in a value lie, with the room behind them.
func places(v reflect.Value) []place {
	var l []place
	switch v.Kind() {
	case reflect.Interface:
		if !v.IsNil() {
			l = places(v.Elem())
		}
	case reflect.Struct:
		for i := range v.NumField() {
			l = append(l, places(v.Field(i))...)
		}
	case reflect.Slice:
		if size := uintptr(v.Cap()) * v.Type().Elem().Size(); size > 0 {
			l = append(l, place{v.Pointer(), v.Pointer() + size})
		}
		for i := range v.Len() {
			l = append(l, places(v.Index(i))...)
		}
	}
	return l
}

// TestMemory: R4, results share no memory with arguments or with each other.
func TestMemory(t *testing.T) {
	r := rand.New(rand.NewSource(82))
	for range 100 {
		c := randomCall(r)
		l := places(reflect.ValueOf([]any{c.p, c.l, c.readings, c.results(t)}))
		slices.SortFunc(l, func(a, b place) int { return int(int64(a.from) - int64(b.from)) })
		for i := 1; i < len(l); i++ {
			if l[i].from < l[i-1].to {
				t.Fatal("shared memory")
			}
		}
	}
}

// TestNilAndEmpty: R3, nil and empty lists are the same.
func TestNilAndEmpty(t *testing.T) {
	p := api.WatchPlan{Quantities: []api.Quantity{{Name: "q", Gauges: []api.Gauge{}}}, Measures: []api.Measure{}, Alarms: []api.Alarm{}}
	q := api.WatchPlan{Quantities: []api.Quantity{{Name: "q"}}}
	empty := call{p: p, l: []api.Entry{}, readings: []api.Reading{}}.results(t)
	equal(t, "empty", said(empty), said(call{p: q}.results(t)))
	nothing := call{p: api.WatchPlan{Quantities: []api.Quantity{}}, l: []api.Entry{}}.results(t)
	equal(t, "nothing", said(nothing), said(call{}.results(t)))
}

// junk makes arguments of any form, most of them close to good ones.
type junk struct{ *rand.Rand }

func (j junk) text() string {
	l := []string{"", "a", "A", "-", "\x00\xff", "é", " ", "q0", "m0", "g0", strings.Repeat("a", api.MaxName), strings.Repeat("a", api.MaxName+1)}
	return l[j.Intn(len(l))]
}

func (j junk) number() int {
	if j.Intn(2) == 0 {
		return j.Intn(12) - 1
	}
	l := []int{math.MinInt, math.MaxInt, 1 << 32, -1 << 31, api.MaxValue, -api.MaxValue, outside, -outside, api.MaxTime, api.MaxTime + 1, api.MaxRate, api.MaxRate + 1}
	return l[j.Intn(len(l))]
}

func (j junk) reading() api.Reading {
	return api.Reading{Gauge: j.number(), Time: j.number(), Value: j.number()}
}

// spoil changes something of a call.
func (j junk) spoil(c *call) {
	c.p = copied(c.p)
	q := &c.p.Quantities[j.Intn(len(c.p.Quantities))]
	m := &c.p.Measures[j.Intn(len(c.p.Measures))]
	switch j.Intn(12) {
	case 0:
		q.Name = j.text()
	case 1:
		q.Start = api.Span{Low: j.number(), High: j.number()}
	case 2:
		q.Rise = j.number()
	case 3:
		q.Fall = j.number()
	case 4:
		q.Bad = j.number()
	case 5:
		q.Gauges = append(q.Gauges, api.Gauge{Name: j.text(), Acc: j.number(), Drift: j.number(), Since: j.number()})
	case 6:
		*m = api.Measure{Name: j.text(), Crew: j.text(), Rank: j.number(), Lag: j.number(), Takes: j.number()}
	case 7:
		m.Lag = j.number()
	case 8:
		c.p.Alarms = append(c.p.Alarms, api.Alarm{Quantity: j.number(), Level: j.number(), Limit: j.number(), Measure: j.number()})
	case 9:
		c.l = append(c.l, api.Entry{Quantity: j.number(), Reading: j.reading()})
	case 10:
		c.readings = append(c.readings, j.reading())
	default:
		c.at, c.x, c.many = j.number(), j.number(), j.number()
	}
}

// TestAnything: P0.1, R2 and R8, whatever is given, each function ends, and has nothing beside an error.
func TestAnything(t *testing.T) {
	j := junk{rand.New(rand.NewSource(83))}
	right, wrong := 0, 0
	for range 3000 {
		c := randomCall(j.Rand)
		for range j.Intn(4) {
			j.spoil(&c)
		}
		if watch.Check(c.p) == api.OK {
			right++
		} else {
			wrong++
		}
		c.results(t)
	}
	if right < 500 || wrong < 500 {
		t.Error("too few:", right, wrong)
	}
	many := call{p: api.WatchPlan{Quantities: make([]api.Quantity, 100000), Measures: make([]api.Measure, 100000), Alarms: make([]api.Alarm, 100000)}}
	many.l, many.readings = make([]api.Entry, 100000), make([]api.Reading, 100000)
	many.results(t)
	many.p = examplePlan()
	many.results(t)
	for _, text := range []string{"\x00", "\n\n", " ", "quantity\n", strings.Repeat("\n", 100000), strings.Repeat(" ", 65536), strings.Repeat("quantity q 0 0 0 0 0\n", 3000)} {
		p, _, e := watch.Parse(text)
		alone(t, "Parse", e, p)
		equal(t, "no plan", e != api.OK, true)
	}
}

// TestReadme: the example of the README.
func TestReadme(t *testing.T) {
	p, _, e := watch.Parse("quantity sink 0 0 2 1 1\ngauge a 1 0 0\ngauge b 1 0 0\ngauge c 1 0 0\nmeasure strut gang 1 5 30\nalarm sink 20 100 strut\n")
	equal(t, "Parse", e, api.OK)
	l := []api.Reading{{Gauge: 0, Time: 5, Value: 9}, {Gauge: 1, Time: 5, Value: 0}, {Gauge: 2, Time: 5, Value: 0}}
	spans, e := watch.Possible(p.Quantities[0], l, 5)
	equal(t, "Possible", []any{spans, e}, []any{span(-1, 1), api.OK})
	failed, values, ok, e := watch.Witness(p.Quantities[0], l, 5, 1)
	equal(t, "Witness", []any{failed, values, ok, e}, []any{[]int{0}, []int{1, 1, 1}, true, api.OK})
	surely, perhaps, e := watch.Suspects(p.Quantities[0], l)
	equal(t, "Suspects", []any{surely, perhaps, e}, []any{[]int{0}, []int{0}, api.OK})
	margin, e := watch.Margin(p.Quantities[0], 10, 100)
	equal(t, "Margin", []any{margin, e}, []any{32, api.OK})
	response, e := watch.Response(p, 0)
	equal(t, "Response", []any{response, e}, []any{35, api.OK})
	late, e := watch.Late(p)
	equal(t, "Late", []any{len(late), e}, []any{0, api.OK})
	got, e := watch.Run(p, entries(0, l...), 60)
	equal(t, "Run", []any{events(got), e}, []any{"15a0 20b0 50d0", api.OK})
}
