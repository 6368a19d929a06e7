package watch_test

import (
	"fmt"
	"math/rand"
	"slices"
	"strings"
	"testing"

	"underpin/api"
	"underpin/watch"
)

// gang is a plan of one quantity, and of measures of one crew, each with an alarm at once.
func gang(l ...api.Measure) api.WatchPlan {
	p := api.WatchPlan{Quantities: []api.Quantity{{Name: "q"}}, Measures: l}
	for i := range l {
		l[i].Name = fmt.Sprintf("m%d", i)
		if l[i].Crew == "" {
			l[i].Crew = "gang"
		}
		p.Alarms = append(p.Alarms, api.Alarm{Measure: i})
	}
	return p
}

// TestResponse: P7.3.
func TestResponse(t *testing.T) {
	for measure, want := range []int{5 + 0 + 10 + 30, 10 + 20, 30 + 10} {
		got, e := watch.Response(examplePlan(), measure)
		equal(t, fmt.Sprint("the measure ", measure), []any{got, e}, []any{want, api.OK})
	}
	p := gang(
		api.Measure{Rank: 5, Lag: 1, Takes: 10},
		api.Measure{Rank: 3, Lag: 100, Takes: 20},
		api.Measure{Rank: 0, Lag: 1000, Takes: 40},
		api.Measure{Rank: 9, Lag: 10000, Takes: 7},
		api.Measure{Rank: 8, Lag: 0, Takes: 8},
		api.Measure{Rank: 1, Crew: "other", Takes: 99999},
		api.Measure{Rank: 7, Takes: 0},
	)
	p.Alarms = p.Alarms[:1] // measures without alarms count, too
	for measure, want := range []int{1 + 8 + 60 + 10, 100 + 10 + 40 + 20, 1000 + 20 + 40, 10000 + 78 + 7, 7 + 70 + 8, 99999, 8 + 70} {
		got, e := watch.Response(p, measure)
		equal(t, fmt.Sprint("the measure ", measure), []any{got, e}, []any{want, api.OK})
	}
	got, e := watch.Response(largest(), 15)
	equal(t, "the first of all", []any{got, e}, []any{3 * api.MaxTime, api.OK})
	got, e = watch.Response(largest(), 0)
	equal(t, "the last of all", []any{got, e}, []any{17 * api.MaxTime, api.OK})
}

// TestLate: P7.3.
func TestLate(t *testing.T) {
	late := func(change func(p *api.WatchPlan)) []int {
		t.Helper()
		p := examplePlan()
		change(&p)
		l, e := watch.Late(p)
		equal(t, "error", e, api.OK)
		return l
	}
	equal(t, "the example", late(func(p *api.WatchPlan) {}), []int{})
	equal(t, "a lower limit", late(func(p *api.WatchPlan) { p.Alarms[0].Limit-- }), []int{0})
	equal(t, "a higher level", late(func(p *api.WatchPlan) { p.Alarms[1].Level++ }), []int{1})
	equal(t, "both", late(func(p *api.WatchPlan) { p.Alarms[1].Level++; p.Alarms[0].Level++ }), []int{0, 1})
	equal(t, "a longer measure ahead of it", late(func(p *api.WatchPlan) { p.Measures[2].Takes++ }), []int{0})
	equal(t, "a faster quantity", late(func(p *api.WatchPlan) { p.Quantities[1].Rise++ }), []int{1})
	equal(t, "one that keeps still", late(func(p *api.WatchPlan) { p.Quantities[0].Rise, p.Alarms[0].Limit = 0, 10 }), []int{})
	equal(t, "a start at the level", late(func(p *api.WatchPlan) { p.Quantities[1].Start.High = 20 }), []int{})
	equal(t, "a start above the level", late(func(p *api.WatchPlan) { p.Quantities[1].Start.High, p.Alarms[1].Limit = 21, 99 }), []int{1})
	equal(t, "a limit below the level", late(func(p *api.WatchPlan) { p.Quantities[0].Rise, p.Alarms[0].Limit = 0, 9 }), []int{0})
	l, e := watch.Late(largest())
	equal(t, "a start above all levels", []any{len(l), l[0], l[15], e}, []any{16, 0, 15, api.OK})
	l, e = watch.Late(api.WatchPlan{})
	equal(t, "no alarms", []any{len(l), e}, []any{0, api.OK})
}

// events writes events: the time, the first letter of the kind, and the number.
func events(l []api.WatchEvent) string {
	var words []string
	for _, x := range l {
		words = append(words, fmt.Sprintf("%d%c%d", x.Time, "xabd"[x.Kind], x.Number))
	}
	return strings.Join(words, " ")
}

// TestRunMeasures: P7.3, when crews begin what.
func TestRunMeasures(t *testing.T) {
	for _, c := range []struct {
		what  string
		p     api.WatchPlan
		until int
		want  string
	}{
		{"one", gang(api.Measure{Takes: 3}), 9, "0a0 0b0 3d0"},
		{"until it is done", gang(api.Measure{Takes: 3}), 3, "0a0 0b0 3d0"},
		{"until it is not done", gang(api.Measure{Takes: 3}), 2, "0a0 0b0"},
		{"with a lag", gang(api.Measure{Lag: 2, Takes: 3}), 9, "0a0 2b0 5d0"},
		{"until it begins", gang(api.Measure{Lag: 2, Takes: 3}), 2, "0a0 2b0"},
		{"until it does not begin", gang(api.Measure{Lag: 2, Takes: 3}), 1, "0a0"},
		{"by rank", gang(api.Measure{Rank: 2, Takes: 3}, api.Measure{Rank: 1, Takes: 4}, api.Measure{Rank: 3, Takes: 5}), 99, "0a0 0a1 0a2 0b1 4d1 4b0 7d0 7b2 12d2"},
		{"one that is under way goes on", gang(api.Measure{Rank: 2, Takes: 3}, api.Measure{Rank: 1, Lag: 1, Takes: 4}), 99, "0a0 0a1 0b0 3d0 3b1 7d1"},
		{"one comes to be ready first", gang(api.Measure{Rank: 2, Lag: 1, Takes: 3}, api.Measure{Rank: 1, Lag: 2, Takes: 4}, api.Measure{Rank: 0, Lag: 3, Takes: 1}), 99, "0a0 0a1 0a2 1b0 4d0 4b2 5d2 5b1 9d1"},
		{"ready when another one is done", gang(api.Measure{Rank: 2, Takes: 3}, api.Measure{Rank: 1, Lag: 3, Takes: 1}), 99, "0a0 0a1 0b0 3d0 3b1 4d1"},
		{"no time at all", gang(api.Measure{}), 9, "0a0 0b0 0d0"},
		{"no time, and others", gang(api.Measure{Rank: 1, Takes: 2}, api.Measure{Rank: 0}, api.Measure{Rank: 2}), 9, "0a0 0a1 0a2 0b1 0d1 0b0 2d0 2b2 2d2"},
		{"several without time", gang(api.Measure{Rank: 3}, api.Measure{Rank: 1}, api.Measure{Rank: 2}), 9, "0a0 0a1 0a2 0b1 0d1 0b2 0d2 0b0 0d0"},
		{"two crews", gang(api.Measure{Crew: "z", Takes: 2}, api.Measure{Crew: "a", Takes: 2}), 9, "0a0 0a1 0b0 0b1 2d0 2d1"},
		{"crews in the order of their first measures", gang(api.Measure{Crew: "z", Rank: 5, Lag: 2, Takes: 1}, api.Measure{Crew: "a", Lag: 2}, api.Measure{Crew: "z", Lag: 2, Takes: 1}), 9, "0a0 0a1 0a2 2b2 2b1 2d1 3d2 3b0 4d0"},
		{"done in the order of measures", gang(api.Measure{Crew: "z", Rank: 1, Lag: 1, Takes: 1}, api.Measure{Crew: "a", Takes: 2}), 9, "0a0 0a1 0b1 1b0 2d0 2d1"},
		{"until the start", gang(api.Measure{Lag: 1}), 0, "0a0"},
	} {
		equal(t, c.what, events(mustRun(t, c.p, nil, c.until)), c.want)
	}
	p := gang(api.Measure{Rank: 1, Takes: 1}, api.Measure{Takes: 1})
	p.Alarms = p.Alarms[:1]
	equal(t, "a measure without an alarm", events(mustRun(t, p, nil, 99)), "0a0 0b0 1d0")
	p = gang(api.Measure{Rank: 1, Takes: 1}, api.Measure{Takes: 1})
	slices.Reverse(p.Alarms)
	equal(t, "alarms back", events(mustRun(t, p, nil, 99)), "0a0 0a1 0b1 1d1 1b0 2d0")
	equal(t, "nothing", events(mustRun(t, api.WatchPlan{}, nil, api.MaxTime)), "")
}

// TestRunAlarms: P7.3, when alarms are raised, and what is broken.
func TestRunAlarms(t *testing.T) {
	p := examplePlan()
	p.Measures = []api.Measure{{Name: "m", Crew: "c", Lag: 1000}, {Name: "n", Crew: "d", Lag: 1000}}
	early := slices.Concat(entries(0, read('a', 4, 0), read('b', 4, 0)), entries(1, read('a', 6, 1)))
	for _, c := range []struct {
		what  string
		l     []api.Entry
		until int
		want  string
	}{
		{"nobody reads", nil, 99, "5a0 16a1"},
		{"until the alarm", nil, 5, "5a0"},
		{"until ahead of it", nil, 4, ""},
		{"read in time", early, 99, "9a0 23a1"},
		{"one gauge is not enough", entries(0, read('a', 4, 0)), 10, "5a0"},
		{"two of the same gauge are not enough", entries(0, read('a', 3, 0), read('a', 4, 0)), 10, "5a0"},
		{"at the same minute", entries(0, read('a', 5, 0), read('c', 5, 0)), 10, "10a0"},
		{"a minute too late", entries(0, read('a', 6, 0), read('c', 6, 0)), 10, "5a0"},
		{"a later one lowers it", entries(0, read('a', 4, 3), read('b', 4, 3), read('a', 5, 0), read('b', 5, 0)), 12, "10a0"},
		{"one behind the end does not matter", entries(0, read('a', 4, 0), read('b', 4, 0), read('a', 9, 9), read('b', 9, 0), read('c', 9, 4)), 8, ""},
		{"broken", entries(0, read('a', 2, 0), read('b', 2, 4), read('c', 2, -3), read('a', 3, 0)), 20, "2x0 2a0 16a1"},
		{"broken at 0", entries(1, read('b', 0, 5)), 20, "0x1 0a1 5a0"},
		{"broken behind the alarm", entries(0, read('a', 9, 0), read('b', 9, 4), read('c', 9, 8)), 20, "5a0 9x0 16a1"},
		{"broken both", slices.Concat(entries(1, read('b', 1, 9)), entries(0, read('a', 1, 9), read('b', 1, 9))), 20, "1x0 1x1 1a0 1a1"},
		{"broken by the first reading", entries(1, read('b', 1, 9), read('b', 1, 3), read('b', 2, 3)), 20, "1x1 1a1 5a0"},
	} {
		equal(t, c.what, events(mustRun(t, p, c.l, c.until)), c.want)
	}
	p.Quantities[1].Rise = 0
	equal(t, "it does not rise", events(mustRun(t, p, nil, 999)), "5a0")
	p.Alarms[1].Level = 4
	equal(t, "it does not rise, and starts there", events(mustRun(t, p, nil, 999)), "0a1 5a0")
	p.Alarms = []api.Alarm{{Level: 5, Measure: 1}, {Level: -1000000000}}
	equal(t, "two alarms of a quantity", events(mustRun(t, p, nil, 1000)), "0a1 3a0 1000b0 1000d0")
}

// sim runs a plan minute by minute, by the words of the chapter.
type sim struct {
	p      api.WatchPlan
	l      []api.Entry
	broken []bool
	raised []int // of each measure: when its alarm was, -1 ahead of it
	began  []int
	done   []bool
	events []api.WatchEvent
}

// seen are the readings of a quantity up to a time.
func (s *sim) seen(quantity, now int) []api.Reading {
	var l []api.Reading
	for _, x := range s.l {
		if x.Quantity == quantity && x.Reading.Time <= now {
			l = append(l, x.Reading)
		}
	}
	return l
}

func (s *sim) tell(now int, kind api.WatchKind, number int) {
	s.events = append(s.events, api.WatchEvent{Time: now, Kind: kind, Number: number})
}

// watch is what comes of gauges at a minute.
func (s *sim) watch(t testing.TB, now int) {
	may := make([][]api.Span, len(s.p.Quantities))
	for i, q := range s.p.Quantities {
		may[i] = mustPossible(t, q, s.seen(i, now), now)
		if len(may[i]) == 0 && !s.broken[i] {
			s.broken[i] = true
			s.tell(now, api.WeBroken, i)
		}
	}
	for i, a := range s.p.Alarms {
		reaches := slices.ContainsFunc(may[a.Quantity], func(x api.Span) bool { return x.High >= a.Level })
		if s.raised[a.Measure] < 0 && (s.broken[a.Quantity] || reaches) {
			s.raised[a.Measure] = now
			s.tell(now, api.WeAlarm, i)
		}
	}
}

// works is what comes of crews at a minute.
func (s *sim) works(now int) {
	for i, m := range s.p.Measures {
		if s.began[i] >= 0 && now == s.began[i]+m.Takes && !s.done[i] {
			s.done[i] = true
			s.tell(now, api.WeDone, i)
		}
	}
	var crews []string
	for _, m := range s.p.Measures {
		if !slices.Contains(crews, m.Crew) {
			crews = append(crews, m.Crew)
		}
	}
	for _, crew := range crews {
		for s.begins(now, crew) {
		}
	}
}

// begins tells whether a crew begins something that takes no time, so that it looks again.
func (s *sim) begins(now int, crew string) bool {
	best := -1
	for i, m := range s.p.Measures {
		if m.Crew != crew {
			continue
		}
		if s.began[i] >= 0 && !s.done[i] {
			return false
		}
		ready := s.began[i] < 0 && s.raised[i] >= 0 && now-s.raised[i] >= m.Lag
		if ready && (best < 0 || m.Rank < s.p.Measures[best].Rank) {
			best = i
		}
	}
	if best < 0 {
		return false
	}
	s.began[best] = now
	s.tell(now, api.WeBegin, best)
	if s.p.Measures[best].Takes > 0 {
		return false
	}
	s.done[best] = true
	s.tell(now, api.WeDone, best)
	return true
}

// simulated runs a plan.
func simulated(t testing.TB, p api.WatchPlan, l []api.Entry, until int) []api.WatchEvent {
	minus := func(n int) []int { return slices.Repeat([]int{-1}, n) }
	s := sim{p: p, l: l, broken: make([]bool, len(p.Quantities)), raised: minus(len(p.Measures)), began: minus(len(p.Measures)), done: make([]bool, len(p.Measures))}
	for now := range until + 1 {
		s.watch(t, now)
		s.works(now)
	}
	return s.events
}

// busyPlan makes a plan in which much happens within 40 minutes, and what its quantities do.
func busyPlan(r *rand.Rand, last int) (api.WatchPlan, [][]int, []int) {
	var p api.WatchPlan
	var histories [][]int
	var failures []int
	for i := range 1 + r.Intn(3) {
		q := randomQuantity(r)
		q.Name = fmt.Sprintf("q%d", i)
		p.Quantities = append(p.Quantities, q)
		histories, failures = append(histories, randomHistory(r, q, last)), append(failures, randomFailures(r, q))
	}
	ranks := r.Perm(9)
	for i := range 1 + r.Intn(6) {
		m := api.Measure{Name: fmt.Sprintf("m%d", i), Crew: []string{"c", "b", "a"}[r.Intn(3)], Rank: ranks[i], Lag: r.Intn(6), Takes: r.Intn(7) * r.Intn(2)}
		p.Measures = append(p.Measures, m)
	}
	for measure := range p.Measures {
		if r.Intn(6) > 0 {
			quantity := r.Intn(len(p.Quantities))
			level := p.Quantities[quantity].Start.High + r.Intn(20) - 1
			p.Alarms = append(p.Alarms, api.Alarm{Quantity: quantity, Level: level, Limit: level + r.Intn(60), Measure: measure})
		}
	}
	r.Shuffle(len(p.Alarms), func(i, k int) { p.Alarms[i], p.Alarms[k] = p.Alarms[k], p.Alarms[i] })
	return p, histories, failures
}

// readAll makes a log: often each gauge is read every few minutes.
func readAll(r *rand.Rand, p api.WatchPlan, histories [][]int, failures []int) []api.Entry {
	var l []api.Entry
	for i, q := range p.Quantities {
		period, first := 1+r.Intn(9), r.Intn(3)
		for gauge := range q.Gauges {
			for t := first; t < len(histories[i]) && t < first+10*period; t += period {
				if r.Intn(8) > 0 {
					l = append(l, entries(i, reading(r, q, failures[i], gauge, t, histories[i]))...)
				}
			}
		}
	}
	r.Shuffle(len(l), func(i, k int) { l[i], l[k] = l[k], l[i] })
	slices.SortStableFunc(l, func(a, b api.Entry) int { return a.Reading.Time - b.Reading.Time })
	return l
}

// TestRunByMinutes: P7.3, runs against the words of the chapter.
func TestRunByMinutes(t *testing.T) {
	r := rand.New(rand.NewSource(75))
	counts := map[api.WatchKind]int{}
	for range 600 {
		p, histories, failures := busyPlan(r, 40)
		if r.Intn(3) == 0 {
			failures = slices.Repeat([]int{31}, len(failures)) // all gauges, so that something breaks
		}
		l, until := readAll(r, p, histories, failures), r.Intn(50)
		got := mustRun(t, p, l, until)
		equal(t, said(p, l, until), events(got), events(simulated(t, p, l, until)))
		for _, x := range got {
			counts[x.Kind]++
		}
	}
	for kind := range 4 {
		if counts[api.WatchKind(kind)] < 100 {
			t.Error("too few:", counts)
		}
	}
}

// TestRunLong: P7.3, a run of as much, and as long, as can be.
func TestRunLong(t *testing.T) {
	p := largest()
	for i := range p.Quantities {
		p.Quantities[i].Bad = 4
		p.Quantities[i].Start = api.Span{Low: -api.MaxValue, High: -api.MaxValue}
	}
	for i := range p.Alarms {
		p.Alarms[i].Level = api.MaxRate*(api.MaxTime-2-i) - api.MaxValue
		p.Measures[i].Lag, p.Measures[i].Takes = 0, 0
	}
	var l []api.Entry
	for i := range api.MaxEntries {
		l = append(l, api.Entry{Quantity: i % 8, Reading: api.Reading{Gauge: i / 8 % 8, Time: 190 * i, Value: 0}})
	}
	got := mustRun(t, p, l, api.MaxTime)
	var want []string
	for i := range 16 {
		want = append(want, fmt.Sprintf("%da%d %db%d %dd%d", 99983+i, 15-i, 99983+i, 15-i, 99983+i, 15-i))
	}
	equal(t, "events", events(got), strings.Join(want, " "))
}
