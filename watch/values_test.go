package watch_test

import (
	"fmt"
	"math"
	"math/rand"
	"slices"
	"testing"

	"underpin/api"
	"underpin/watch"
)

// TestError: P7.2.
func TestError(t *testing.T) {
	g := api.Gauge{Name: "g", Acc: 3, Drift: 10, Since: 500}
	for _, c := range []struct{ t, want int }{{0, 3}, {499, 3}, {500, 3}, {501, 13}, {1000, 13}, {1500, 13}, {1501, 23}, {2500, 23}, {2501, 33}, {100000, 1003}} {
		got, e := watch.Error(g, c.t)
		equal(t, fmt.Sprint("at ", c.t), []any{got, e}, []any{c.want, api.OK})
	}
	got, e := watch.Error(api.Gauge{Name: "no name", Acc: api.MaxValue, Drift: api.MaxValue}, api.MaxTime)
	equal(t, "the greatest one, whatever the name is", []any{got, e}, []any{101 * api.MaxValue, api.OK})
	got, e = watch.Error(api.Gauge{Since: api.MaxTime}, 0)
	equal(t, "none", []any{got, e}, []any{0, api.OK})
	for _, g := range []api.Gauge{{Acc: -1}, {Acc: outside}, {Drift: -1}, {Drift: outside}, {Since: -1}, {Since: api.MaxTime + 1}, {Acc: math.MinInt}, {Since: math.MinInt}} {
		got, e := watch.Error(g, 0)
		equal(t, fmt.Sprint(g), []any{got, e}, []any{0, api.ErrArg})
	}
	for _, at := range []int{-1, api.MaxTime + 1, math.MinInt, math.MaxInt} {
		got, e := watch.Error(g, at)
		equal(t, fmt.Sprint(at), []any{got, e}, []any{0, api.ErrArg})
	}
}

// span is a list of one span.
func span(low, high int) []api.Span {
	return []api.Span{{Low: low, High: high}}
}

// TestPossible: P7.2, the chapter's examples, and others that were reckoned by hand.
func TestPossible(t *testing.T) {
	q := exampleQuantity()
	sure := exampleQuantity()
	sure.Bad = 0
	for _, c := range []struct {
		what string
		q    api.Quantity
		l    []api.Reading
		at   int
		want []api.Span
	}{
		{"no readings", q, nil, 5, span(-5, 10)},
		{"one", q, []api.Reading{read('a', 5, 4)}, 5, span(-5, 10)},
		{"two", q, []api.Reading{read('a', 5, 4), read('b', 5, 5)}, 5, span(3, 6)},
		{"three", q, []api.Reading{read('a', 5, 9), read('b', 5, 0), read('c', 5, 0)}, 5, span(-1, 1)},
		{"at 0", q, nil, 0, span(0, 0)},
		{"at the end", q, nil, api.MaxTime, span(-api.MaxTime, 2*api.MaxTime)},
		{"two that disagree", q, []api.Reading{read('a', 5, -4), read('b', 5, 8)}, 5, []api.Span{{Low: -5, High: -3}, {Low: 7, High: 9}}},
		{"a number between them", q, []api.Reading{read('a', 5, 0), read('b', 5, 4)}, 5, []api.Span{{Low: -1, High: 1}, {Low: 3, High: 5}}},
		{"no number between them", q, []api.Reading{read('a', 5, 0), read('b', 5, 3)}, 5, span(-1, 4)},
		{"one of them", q, []api.Reading{read('a', 5, 3), read('b', 5, 0)}, 5, span(-1, 4)},
		{"the same gauge disagrees with itself", q, []api.Reading{read('a', 5, 0), read('a', 5, 3)}, 5, span(-5, 10)},
		{"too many disagree", q, []api.Reading{read('a', 5, 0), read('b', 5, 4), read('c', 5, 8)}, 5, nil},
		{"too many, later", q, []api.Reading{read('a', 50, 0), read('b', 50, 4), read('c', 50, 8)}, 5, nil},
		{"forth", sure, []api.Reading{read('a', 5, 4)}, 8, span(0, 11)},
		{"back", sure, []api.Reading{read('a', 5, 4)}, 3, span(-1, 6)},
		{"back to the start", sure, []api.Reading{read('a', 5, 10)}, 0, span(0, 0)},
		{"back, but not so far", sure, []api.Reading{read('a', 5, 10)}, 4, span(7, 8)},
		{"it cannot rise so fast", sure, []api.Reading{read('a', 5, 12)}, 5, nil},
		{"it cannot fall so fast", sure, []api.Reading{read('a', 5, -7)}, 5, nil},
		{"it can just rise so fast", sure, []api.Reading{read('a', 5, 11)}, 5, span(10, 10)},
		{"it can just fall so fast", sure, []api.Reading{read('a', 5, -6)}, 5, span(-5, -5)},
		{"one ahead and one behind", sure, []api.Reading{read('a', 10, 5), read('b', 4, 4)}, 6, span(1, 9)},
		{"one between them", sure, []api.Reading{read('a', 10, 5), read('b', 4, 4), read('c', 8, 8)}, 6, span(3, 9)},
		{"one behind that rules it out", sure, []api.Reading{read('b', 4, 7), read('c', 100000, 0), read('a', 5, 2)}, 4, nil},
		{"at 0, above Start", sure, []api.Reading{read('a', 0, 2)}, 0, nil},
		{"at 0, within the error", sure, []api.Reading{read('a', 0, 1)}, 3, span(-3, 6)},
	} {
		got, e := watch.Possible(c.q, c.l, c.at)
		equal(t, "error", e, api.OK)
		equal(t, c.what, got, c.want)
		slices.Reverse(c.l)
		equal(t, c.what+", in another order", mustPossible(t, c.q, c.l, c.at), c.want)
	}
}

// TestPossibleExtremes: P7.2, quantities that start, go and are read as far off as can be.
func TestPossibleExtremes(t *testing.T) {
	q := api.Quantity{Name: "q", Start: api.Span{Low: -api.MaxValue, High: api.MaxValue}, Rise: api.MaxRate, Fall: api.MaxRate}
	equal(t, "far", mustPossible(t, q, nil, api.MaxTime), span(-2000000000, 2000000000))
	q.Gauges = []api.Gauge{{Name: "a", Acc: api.MaxValue, Drift: api.MaxValue}}
	equal(t, "a bad gauge", mustPossible(t, q, []api.Reading{read('a', api.MaxTime, api.MaxValue)}, api.MaxTime), span(-2000000000, 2000000000))
	q.Gauges = []api.Gauge{{Name: "a"}}
	equal(t, "a good one", mustPossible(t, q, []api.Reading{read('a', api.MaxTime, api.MaxValue)}, 0), span(0, api.MaxValue))
	q.Bad = 1
	equal(t, "it may have failed", mustPossible(t, q, []api.Reading{read('a', api.MaxTime, api.MaxValue)}, 0), span(-api.MaxValue, api.MaxValue))
	still := api.Quantity{Name: "q", Start: api.Span{Low: 7, High: 9}, Gauges: []api.Gauge{{Name: "a"}}}
	equal(t, "it keeps still", mustPossible(t, still, []api.Reading{read('a', 100, 8)}, 0), span(8, 8))
	equal(t, "it cannot keep still", mustPossible(t, still, []api.Reading{read('a', 100, 8), read('a', 101, 9)}, 0), []api.Span{})
	drifts := api.Quantity{Name: "q", Rise: 10000, Gauges: []api.Gauge{{Name: "a", Acc: 1, Drift: 2, Since: 100}}}
	equal(t, "the error at the reading", mustPossible(t, drifts, []api.Reading{read('a', 1101, 500)}, 1101), span(495, 505))
}

// wayTo is what Witness says.
func wayTo(t testing.TB, q api.Quantity, l []api.Reading, at, x int) (failed, values []int, ok bool) {
	t.Helper()
	failed, values, ok, e := watch.Witness(q, l, at, x)
	if e != api.OK {
		t.Fatal("Witness:", e, said(q, l, at, x))
	}
	return failed, values, ok
}

// checkWitness fails unless a witness proves what it says: few gauges have failed, the others agree, and the quantity may go
// from each value to the next one in time, with x at the time at.
func checkWitness(t testing.TB, q api.Quantity, l []api.Reading, at, x int, failed, values []int) {
	t.Helper()
	what := said(q, l, at, x, failed, values)
	if len(failed) > q.Bad || !slices.IsSorted(failed) || len(slices.Compact(slices.Clone(failed))) != len(failed) || len(values) != len(l) {
		t.Fatal("no witness:", what)
	}
	type point struct{ t, x int }
	points := []point{{at, x}}
	for i, r := range l {
		points = append(points, point{r.Time, values[i]})
		off := errorAt(q.Gauges[r.Gauge], r.Time)
		if !slices.Contains(failed, r.Gauge) && (values[i] < r.Value-off || values[i] > r.Value+off) {
			t.Fatal("a gauge that has not failed does not agree:", what, i)
		}
	}
	for _, a := range points {
		if a.x < q.Start.Low-q.Fall*a.t || a.x > q.Start.High+q.Rise*a.t {
			t.Fatal("it cannot come from Start:", what, a)
		}
		for _, b := range points {
			if minutes := b.t - a.t; minutes >= 0 && (b.x < a.x-q.Fall*minutes || b.x > a.x+q.Rise*minutes) {
				t.Fatal("it cannot go on so:", what, a, b)
			}
		}
	}
	start := point{0, max(q.Start.Low, x-q.Rise*at)} // one history comes to all points only if it may start at one value
	for _, a := range points {
		start.x = max(start.x, a.x-q.Rise*a.t)
	}
	for _, a := range points {
		if start.x > q.Start.High || start.x-a.x > q.Fall*a.t {
			t.Fatal("no value to start at:", what, start)
		}
	}
	for _, gauge := range failed {
		if gauge < 0 || gauge >= len(q.Gauges) {
			t.Fatal("no gauge:", what)
		}
	}
}

// TestWitness: P7.2, by hand.
func TestWitness(t *testing.T) {
	q := exampleQuantity()
	l := []api.Reading{read('a', 5, 9), read('b', 5, 0), read('c', 5, 0), read('b', 7, 2)}
	for x := -1; x <= 1; x++ {
		failed, values, ok := wayTo(t, q, l, 5, x)
		equal(t, "x", []any{failed, ok, values[:3]}, []any{[]int{0}, true, []int{x, x, x}})
		checkWitness(t, q, l, 5, x, failed, values)
	}
	for _, x := range []int{-2, 2, 9, math.MinInt, math.MaxInt, -1 << 40, 1 << 40} {
		failed, values, ok := wayTo(t, q, l, 5, x)
		equal(t, fmt.Sprint(x), []any{len(failed), len(values), ok}, []any{0, 0, false})
	}
	failed, values, ok := wayTo(t, q, nil, 100000, 200000)
	equal(t, "no readings", []any{len(failed), len(values), ok}, []any{0, 0, true})
	_, _, ok = wayTo(t, q, nil, 100000, 200001)
	equal(t, "too far", ok, false)
	_, _, ok = wayTo(t, q, []api.Reading{read('a', 5, 0), read('b', 5, 4), read('c', 5, 8)}, 0, 0)
	equal(t, "too many disagree", ok, false)
	one := q
	one.Gauges, one.Bad = q.Gauges[:1], 1
	failed, values, ok = wayTo(t, one, []api.Reading{read('a', 5, 99), read('a', 2, -99)}, 6, 12)
	equal(t, "a gauge that has failed", []any{failed, values, ok}, []any{[]int{0}, []int{10, 4}, true})
}

// TestValuesByMinutes: P7.2 and P7.4, Possible and Witness of small quantities against all histories, followed minute by minute.
func TestValuesByMinutes(t *testing.T) {
	r := rand.New(rand.NewSource(72))
	none, several, unlike := 0, 0, 0
	for range 1000 {
		q := randomQuantity(r)
		history := randomHistory(r, q, 10)
		l := randomReadings(r, q, randomFailures(r, q), history)
		if r.Intn(2) == 0 {
			l = quarrel(r, q, history)
		}
		last := lastTime(l, 10)
		var all [][]values
		for set := range 1 << len(q.Gauges) {
			if sizeOf(set) <= q.Bad {
				all = append(all, minutes(q, l, set, last))
			}
		}
		for at := range last + 1 {
			var may values
			for _, of := range all {
				for i, is := range of[at] {
					may[i] = may[i] || is
				}
			}
			spans := mustPossible(t, q, l, at)
			equal(t, said(q, l, at), spans, spansOf(may))
			for x := 1 - offset; x < offset; x++ {
				if i := x + offset; may[i] == may[i-1] && r.Intn(20) > 0 {
					continue // most of what is asked is where spans begin and end
				}
				failed, values, ok := wayTo(t, q, l, at, x)
				equal(t, said(q, l, at, x), ok, may[x+offset])
				if ok {
					checkWitness(t, q, l, at, x, failed, values)
				}
			}
			switch len(spans) {
			case 0:
				none++
			case 1:
			default:
				several++
			}
			if len(spans) > 0 && spansOf(all[0][at]) == nil {
				unlike++
			}
		}
	}
	if none < 50 || several < 50 || unlike < 50 {
		t.Error("too few:", none, several, unlike)
	}
}

// far are readings and values of any size: the values at a time if these gauges have failed, by the pairs of readings alone.
func far(q api.Quantity, l []api.Reading, failed, at int) (api.Span, bool) {
	type gate struct{ t, low, high int }
	gates := []gate{{0, q.Start.Low, q.Start.High}}
	for _, r := range l {
		if off := errorAt(q.Gauges[r.Gauge], r.Time); !hasFailed(failed, r.Gauge) {
			gates = append(gates, gate{r.Time, r.Value - off, r.Value + off})
		}
	}
	// from what is at one gate what may be at a time
	reach := func(g gate, t int) (int, int) {
		if t >= g.t {
			return g.low - q.Fall*(t-g.t), g.high + q.Rise*(t-g.t)
		}
		return g.low - q.Rise*(g.t-t), g.high + q.Fall*(g.t-t)
	}
	out, open := api.Span{Low: math.MinInt, High: math.MaxInt}, true
	for _, g := range gates {
		low, high := reach(g, at)
		out = api.Span{Low: max(out.Low, low), High: min(out.High, high)}
		for _, other := range gates {
			low, high := reach(g, other.t)
			open = open && low <= other.high && high >= other.low
		}
	}
	return out, open
}

// TestValuesFarOff: P7.2, quantities of all sizes at all times, by pairs of readings.
func TestValuesFarOff(t *testing.T) {
	r := rand.New(rand.NewSource(73))
	none, some := 0, 0
	for range 1000 {
		q := api.Quantity{Name: "q", Start: api.Span{Low: -r.Intn(api.MaxValue), High: r.Intn(api.MaxValue)}, Rise: r.Intn(1 << r.Intn(14)), Fall: r.Intn(1 << r.Intn(14))}
		for i := range 1 + r.Intn(api.MaxGauges) {
			q.Gauges = append(q.Gauges, api.Gauge{Name: fmt.Sprintf("g%d", i), Acc: r.Intn(1 << r.Intn(26)), Drift: r.Intn(1 << r.Intn(20)), Since: r.Intn(api.MaxTime)})
		}
		q.Bad = r.Intn(len(q.Gauges) + 1)
		var l []api.Reading
		for range r.Intn(8) {
			l = append(l, api.Reading{Gauge: r.Intn(len(q.Gauges)), Time: r.Intn(api.MaxTime + 1), Value: r.Intn(1<<(2+r.Intn(27))) - 1<<r.Intn(20)})
		}
		at := r.Intn(api.MaxTime + 1)
		var want []api.Span
		for set := range 1 << len(q.Gauges) {
			if s, open := far(q, l, set, at); open && sizeOf(set) <= q.Bad {
				want = append(want, s)
			}
		}
		got := mustPossible(t, q, l, at)
		for _, s := range want {
			equal(t, said(q, l, at, s), slices.ContainsFunc(got, func(g api.Span) bool { return g.Low <= s.Low && g.High >= s.High }), true)
			for _, x := range []int{s.Low, s.High, s.Low + (s.High-s.Low)/2} {
				failed, values, ok := wayTo(t, q, l, at, x)
				equal(t, said(q, l, at, x), ok, true)
				checkWitness(t, q, l, at, x, failed, values)
			}
		}
		ends := func(of func(api.Span) int, x int) bool {
			return slices.ContainsFunc(want, func(s api.Span) bool { return of(s) == x })
		}
		for i, s := range got {
			low := ends(func(s api.Span) int { return s.Low }, s.Low)
			high := ends(func(s api.Span) int { return s.High }, s.High)
			apart := i == 0 || got[i-1].High+1 < s.Low
			equal(t, said(q, l, at, got, want), []bool{low, high, apart}, []bool{true, true, true})
			_, _, above := wayTo(t, q, l, at, s.High+1)
			_, _, below := wayTo(t, q, l, at, s.Low-1)
			equal(t, "beside a span", []bool{above, below}, []bool{false, false})
		}
		if len(want) == 0 {
			none++
		} else {
			some++
		}
		equal(t, said(q, l, at, got, want), len(got) == 0, len(want) == 0)
	}
	if none < 100 || some < 100 {
		t.Error("too few:", none, some)
	}
}

// TestSuspects: P7.2, by hand.
func TestSuspects(t *testing.T) {
	q := exampleQuantity()
	two := exampleQuantity()
	two.Bad = 2
	for _, c := range []struct {
		what            string
		q               api.Quantity
		l               []api.Reading
		surely, perhaps []int
	}{
		{"the chapter's example", q, []api.Reading{read('a', 5, 9), read('b', 5, 0), read('c', 5, 0)}, []int{0}, []int{0}},
		{"no readings", q, nil, nil, nil},
		{"all agree", two, []api.Reading{read('a', 5, 1), read('b', 5, 0), read('c', 5, 2)}, nil, nil},
		{"one of two", q, []api.Reading{read('b', 5, 9), read('c', 5, 0)}, nil, []int{1, 2}},
		{"one of two, and one that cannot be", two, []api.Reading{read('c', 5, 9), read('b', 5, 0), read('a', 5, 30)}, []int{0}, []int{0, 1, 2}},
		{"too many", q, []api.Reading{read('c', 5, 9), read('b', 5, 0), read('a', 5, 30)}, nil, nil},
		{"it cannot be so at the start", q, []api.Reading{read('c', 0, 2)}, []int{2}, []int{2}},
		{"it cannot go on so", q, []api.Reading{read('c', 10, 20), read('b', 11, 0), read('a', 0, 0)}, nil, []int{1, 2}},
		{"as few as can be", two, []api.Reading{read('c', 5, 9), read('b', 5, 0), read('a', 5, 1)}, []int{2}, []int{2}},
		{"all in turn", two, []api.Reading{read('c', 5, 9), read('b', 5, 0), read('a', 5, 4)}, nil, []int{0, 1, 2}},
	} {
		surely, perhaps, e := watch.Suspects(c.q, c.l)
		equal(t, c.what, e, api.OK)
		equal(t, c.what+", surely", surely, c.surely)
		equal(t, c.what+", perhaps", perhaps, c.perhaps)
	}
}

// TestSuspectsByMinutes: P7.2, against all histories.
func TestSuspectsByMinutes(t *testing.T) {
	r := rand.New(rand.NewSource(74))
	counts := map[string]int{}
	for range 1500 {
		q := randomQuantity(r)
		l := randomReadings(r, q, r.Intn(1<<len(q.Gauges)), randomHistory(r, q, 10))
		var ways []int // of as few gauges as can be
		for set := range 1 << len(q.Gauges) {
			if sizeOf(set) > q.Bad || spansOf(minutes(q, l, set, lastTime(l, 0))[0]) == nil {
				continue
			}
			if len(ways) > 0 && sizeOf(set) < sizeOf(ways[0]) {
				ways = nil
			}
			if len(ways) == 0 || sizeOf(set) == sizeOf(ways[0]) {
				ways = append(ways, set)
			}
		}
		every, some := 1<<len(q.Gauges)-1, 0
		for _, set := range ways {
			every, some = every&set, some|set
		}
		if len(ways) == 0 {
			every = 0
		}
		surely, perhaps, e := watch.Suspects(q, l)
		equal(t, "error", e, api.OK)
		equal(t, said(q, l), []string{said(surely), said(perhaps)}, []string{said(gaugesOf(every)), said(gaugesOf(some))})
		counts[fmt.Sprint(len(ways) > 1, sizeOf(every) > 0, sizeOf(some))]++
	}
	for _, k := range []string{"false false 0", "false true 1", "false true 2", "true false 2", "true false 3", "true true 3"} {
		if counts[k] < 3 {
			t.Error("too few:", k, counts)
		}
	}
}

// TestMargin: P7.2.
func TestMargin(t *testing.T) {
	q := exampleQuantity()
	gauges := []api.Gauge{{Name: "a", Acc: 1, Drift: 3}, {Name: "b", Acc: 4, Drift: 1, Since: 100}, {Name: "c", Acc: 5, Since: 7}}
	for _, c := range []struct {
		what          string
		q             api.Quantity
		period, until int
		want          int
		e             api.Errno
	}{
		{"the chapter's example", q, 10, 100, 32, api.OK},
		{"the least period", q, 1, 0, 5, api.OK},
		{"the greatest one", q, api.MaxTime, api.MaxTime, 2 + 3*api.MaxTime, api.OK},
		{"at 0", api.Quantity{Name: "q", Bad: 1, Gauges: gauges}, 1, 0, 10, api.OK},
		{"at 100", api.Quantity{Name: "q", Bad: 1, Gauges: gauges}, 1, 1100, 14, api.OK},
		{"at 2001", api.Quantity{Name: "q", Rise: 7, Gauges: gauges}, 3, 2001, 41, api.OK},
		{"one gauge", api.Quantity{Name: "q", Fall: 7, Gauges: gauges[:1]}, 3, 0, 23, api.OK},
		{"no gauges", api.Quantity{Name: "q"}, 1, 0, 0, api.ErrScope},
		{"just twice as many", api.Quantity{Name: "q", Bad: 1, Gauges: gauges[:2]}, 1, 0, 0, api.ErrScope},
		{"no period", q, 0, 0, 0, api.ErrArg},
		{"a period below 0", q, -1, 0, 0, api.ErrArg},
		{"a period behind all times", q, api.MaxTime + 1, 0, 0, api.ErrArg},
		{"no period, no gauges", api.Quantity{Name: "q"}, 0, 0, 0, api.ErrArg},
		{"until no time, no gauges", api.Quantity{Name: "q"}, 1, -1, 0, api.ErrArg},
		{"no quantity", api.Quantity{}, 0, -1, 0, api.ErrName},
	} {
		got, e := watch.Margin(c.q, c.period, c.until)
		equal(t, c.what, []any{got, e}, []any{c.want, c.e})
	}
	greatest := largest().Quantities[0]
	greatest.Bad = 3
	for i := range greatest.Gauges {
		greatest.Gauges[i].Since = 0
	}
	got, e := watch.Margin(greatest, api.MaxTime, api.MaxTime)
	equal(t, "as great as can be", []any{got, e}, []any{202*api.MaxValue + 20000*api.MaxTime, api.OK})
}
