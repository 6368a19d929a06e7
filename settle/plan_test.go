package settle_test

import (
	"fmt"
	"math/big"
	"math/rand"
	"slices"
	"testing"

	"underpin/api"
	"underpin/exact"
	"underpin/settle"
)

// rows returns the rows that a text says.
func rows(t testing.TB, text string) []api.Row {
	t.Helper()
	l, line, e := exact.Parse(text)
	if e != api.OK {
		t.Fatal(text, line, e)
	}
	return l
}

// onePad is the pad of the chapter's example.
func onePad() []api.Pad {
	return []api.Pad{{X: 0, Half: 10, Most: "30"}}
}

// term adds a multiple of an unknown, unless it is none.
func term(terms []api.Term, name string, coef *big.Rat) []api.Term {
	if coef.Sign() == 0 {
		return terms
	}
	return append(terms, api.Term{Name: name, Coef: frac(coef)})
}

// planOf is the plan of pads, by the words of the chapter: ends of tilts are looked for at all corners, and what a pad
// does is the tilt that comes of 1 put there, with its sign turned.
func planOf(r api.Route, pads []api.Pad, class int) (l []api.Row, goal []api.Term) {
	for k, pad := range pads {
		name := fmt.Sprintf("g-%02d", k)
		l = append(l, api.Row{Terms: []api.Term{{Name: name, Coef: "-1"}}, Bound: "0"}, api.Row{Terms: []api.Term{{Name: name, Coef: "1"}}, Bound: pad.Most})
		goal = append(goal, api.Term{Name: name, Coef: "-1"})
	}
	limit := rat(r.Limits[class])
	for _, h := range r.Houses {
		var tilts []*big.Rat
		for _, lost := range cornersOf(r) {
			tilts = append(tilts, tiltAt(h, func(x int) *big.Rat { return sinkingAt(r, lost, x) }))
		}
		least, greatest := extremes(tilts)
		up, down := api.Row{Bound: frac(minus(limit, greatest))}, api.Row{Bound: frac(plus(limit, least))}
		for k, pad := range pads {
			change := tiltAt(h, func(x int) *big.Rat { return new(big.Rat).Neg(shareAt(pad.X, pad.Half, x)) })
			name := fmt.Sprintf("g-%02d", k)
			up.Terms = term(up.Terms, name, change)
			down.Terms = term(down.Terms, name, new(big.Rat).Neg(change))
		}
		l = append(l, up, down)
	}
	return l, goal
}

// TestPlan: P5.4, rows that were reckoned by hand.
func TestPlan(t *testing.T) {
	l, goal, e := settle.Plan(exampleRoute(), onePad(), 0)
	want := rows(t, "-1 g-00 <= 0\n1 g-00 <= 30\n1/100 g-00 <= 3/20\n-1/100 g-00 <= -3/20\n")
	equal(t, "the example", []any{said(l), said(goal), e}, []any{said(want), said([]api.Term{{Name: "g-00", Coef: "-1"}}), api.OK})
	r := exampleRoute()
	r.Houses = append(r.Houses, api.House{Name: "left", From: -10, To: 0}, api.House{Name: "far", From: 50, To: 60})
	pads := []api.Pad{{X: 5, Half: 5, Most: "1/3"}, {X: -4, Half: 8, Most: "0"}, {X: 60, Half: 1, Most: "9999"}}
	l, goal, e = settle.Plan(r, pads, 1)
	want = rows(t, "-1 g-00 <= 0\n1 g-00 <= 1/3\n-1 g-01 <= 0\n1 g-01 <= 0\n-1 g-02 <= 0\n1 g-02 <= 9999\n"+
		"1/160 g-01 <= 3/10\n-1/160 g-01 <= 0\n"+ // h: the first pad does nothing at its ends
		"-1/320 g-01 <= 0\n1/320 g-01 <= 3/10\n"+ // left: 4/64 at 0, and 2/64 at -10
		"-1/10 g-02 <= 1/5\n1/10 g-02 <= 1/5\n")
	equal(t, "three pads", []any{said(l), e}, []any{said(want), api.OK})
	equal(t, "three pads: goal", said(goal), said([]api.Term{{Name: "g-00", Coef: "-1"}, {Name: "g-01", Coef: "-1"}, {Name: "g-02", Coef: "-1"}}))
	l, goal, e = settle.Plan(exampleRoute(), nil, 0)
	equal(t, "no pads", []any{said(l), len(goal), e}, []any{said(rows(t, "<= 3/20\n<= -3/20\n")), 0, api.OK})
	l, goal, e = settle.Plan(api.Route{Limits: numbers("1")}, []api.Pad{}, 0)
	equal(t, "nothing", []any{len(l), len(goal), e}, []any{0, 0, api.OK})
}

// TestPlanByWords: P5.4, against the chapter's words.
func TestPlanByWords(t *testing.T) {
	r := rand.New(rand.NewSource(20))
	full := 0
	for range 200 {
		route := randomRoute(r, 5)
		route.Limits = append(numbers("1/200"), route.Limits...)
		pads, class := randomPads(r, r.Intn(5)), r.Intn(len(route.Limits))
		wantRows, wantGoal := planOf(route, pads, class)
		l, goal, e := settle.Plan(route, pads, class)
		equal(t, "error", e, api.OK)
		equal(t, "rows of "+said(route, pads, class), said(l), said(wantRows))
		equal(t, "goal", said(goal), said(wantGoal))
		if len(route.Cuts) > 1 && len(route.Houses) > 1 && len(pads) > 1 && class > 0 {
			full++
		}
	}
	if full < 20 {
		t.Error("too few:", full)
	}
}

// TestPlanErrors: P5.4, in their order.
func TestPlanErrors(t *testing.T) {
	pad := func(x, half int, most api.Frac) api.Pad { return api.Pad{X: x, Half: half, Most: most} }
	for _, c := range []struct {
		what  string
		pads  []api.Pad
		class int
		want  api.Errno
	}{
		{"13 pads", slices.Repeat(onePad(), 13), 0, api.ErrLimit},
		{"13 pads that are none", make([]api.Pad, 13), -1, api.ErrLimit},
		{"12 pads", slices.Repeat(onePad(), 12), 0, api.OK},
		{"12 pads that are none", make([]api.Pad, 12), 0, api.ErrArg},
		{"X too far", []api.Pad{pad(100001, 1, "x")}, 9, api.ErrArg},
		{"X too far back", []api.Pad{pad(-100001, 1, "10000")}, 9, api.ErrArg},
		{"X as far as can be", []api.Pad{pad(1<<63-1, 1, "1")}, 0, api.ErrArg},
		{"X far", []api.Pad{pad(100000, 1, "1"), pad(-100000, 10000, "1")}, 0, api.OK},
		{"Half 0", []api.Pad{pad(0, 0, "x")}, 0, api.ErrArg},
		{"Half below 0", []api.Pad{pad(0, -1<<63, "1")}, 0, api.ErrArg},
		{"Half too great", []api.Pad{pad(0, 10001, "10000")}, 0, api.ErrArg},
		{"Most below 0", []api.Pad{pad(0, 1, "-1/9999"), pad(0, 1, "x")}, 9, api.ErrArg},
		{"the first one decides", []api.Pad{pad(0, 1, "x"), pad(0, 0, "1")}, 9, api.ErrForm},
		{"class -1", onePad(), -1, api.ErrNone},
		{"class 2", onePad(), 2, api.ErrNone},
		{"class far below 0", nil, -1 << 63, api.ErrNone},
		{"class far on", nil, 1<<63 - 1, api.ErrNone},
		{"the last class", onePad(), 1, api.OK},
	} {
		l, goal, e := settle.Plan(exampleRoute(), c.pads, c.class)
		equal(t, c.what, e, c.want)
		alone(t, c.what, e, l, goal)
		answer, e := settle.Grout(exampleRoute(), c.pads, c.class)
		equal(t, c.what, e, c.want)
		alone(t, c.what, e, answer)
	}
	for _, c := range badNumbers {
		_, _, e := settle.Plan(exampleRoute(), []api.Pad{pad(0, 10, c.number)}, 9)
		equal(t, fmt.Sprintf("Most %.20s", c.number), e, c.want)
	}
	r := exampleRoute()
	r.Limits = nil
	_, _, e := settle.Plan(r, onePad(), 0)
	equal(t, "no classes", e, api.ErrNone)
	for _, c := range wrongRoutes {
		r := exampleRoute()
		c.change(&r)
		l, goal, e := settle.Plan(r, make([]api.Pad, 13), -1)
		equal(t, c.what, e, c.want)
		alone(t, c.what, e, l, goal)
		answer, e := settle.Grout(r, make([]api.Pad, 13), -1)
		equal(t, c.what, e, c.want)
		alone(t, c.what, e, answer)
	}
}

// TestPlanTooLong: P5.4, numbers of rows have at most twelve digits above and below.
func TestPlanTooLong(t *testing.T) {
	long := func(half, to int, low, high, limit api.Frac) api.Route {
		return api.Route{Cuts: []api.Cut{{X: 0, Half: half, Low: low, High: high}}, Houses: []api.House{{Name: "h", From: 0, To: to}}, Limits: []api.Frac{limit}}
	}
	for _, c := range []struct {
		what string
		r    api.Route
		pads []api.Pad
		want api.Errno
	}{
		{"a Coef below 10^12", long(1, 9973, "0", "0", "1"), []api.Pad{{X: 1, Half: 10000, Most: "1"}}, api.OK},
		{"a Coef beyond", long(1, 10007, "0", "0", "1"), []api.Pad{{X: 1, Half: 10000, Most: "1"}}, api.ErrLimit},
		{"a Bound below 10^12", long(9967, 1, "1", "1", "1/9973"), nil, api.OK},
		{"a Bound beyond, of the least tilt", long(9967, 1, "1/9949", "9949", "1/9973"), nil, api.ErrLimit},
		{"a Bound beyond, of the greatest tilt", long(9967, 1, "0", "1/9949", "1/9973"), nil, api.ErrLimit},
		{"no building", api.Route{Limits: numbers("1")}, []api.Pad{{X: 1, Half: 10000, Most: "9998/9999"}}, api.OK},
	} {
		l, goal := planOf(c.r, c.pads, 0)
		equal(t, c.what+", by words", exact.Check(l), c.want)
		got, gotGoal, e := settle.Plan(c.r, c.pads, 0)
		equal(t, c.what, e, c.want)
		if e == api.OK {
			equal(t, c.what, said(got, gotGoal), said(l, goal))
		}
		alone(t, c.what, e, got, gotGoal)
		answer, e := settle.Grout(c.r, c.pads, 0)
		equal(t, c.what, e, c.want)
		alone(t, c.what, e, answer)
	}
}

// TestGrout: P5.4, the chapter's example, and other answers that were reckoned by hand.
func TestGrout(t *testing.T) {
	more := exampleRoute()
	more.Cuts[0].High = "30"
	over := exampleRoute()
	over.Houses[0].From, over.Houses[0].To = -10, 10
	for _, c := range []struct {
		what  string
		r     api.Route
		pads  []api.Pad
		class int
		kind  api.AnswerKind
		value api.Frac
	}{
		{"the example", exampleRoute(), onePad(), 0, api.AnBest, "-15"},
		{"just enough", exampleRoute(), []api.Pad{{X: 0, Half: 10, Most: "15"}}, 0, api.AnBest, "-15"},
		{"not enough", exampleRoute(), []api.Pad{{X: 0, Half: 10, Most: "149/10"}}, 0, api.AnEmpty, ""},
		{"nothing to do in the class 1", exampleRoute(), onePad(), 1, api.AnBest, "0"},
		{"no pads", exampleRoute(), nil, 0, api.AnEmpty, ""},
		{"no pads, and none is needed", exampleRoute(), nil, 1, api.AnBest, "0"},
		{"the wrong side", exampleRoute(), []api.Pad{{X: 10, Half: 10, Most: "9999"}}, 0, api.AnEmpty, ""},
		{"a pad that does nothing there", exampleRoute(), []api.Pad{{X: 5, Half: 5, Most: "9999"}}, 0, api.AnEmpty, ""},
		{"what is lost is not known well enough", more, onePad(), 0, api.AnEmpty, ""},
		{"the class 1 for it", more, onePad(), 1, api.AnBest, "-10"},
		{"above the middle", over, nil, 0, api.AnBest, "0"},
		{"two pads, the nearer one does more", exampleRoute(), []api.Pad{{X: 0, Half: 10, Most: "10"}, {X: 0, Half: 5, Most: "10"}}, 0, api.AnBest, "-15/2"},
		{"two pads, both are needed", exampleRoute(), []api.Pad{{X: 0, Half: 10, Most: "10"}, {X: 0, Half: 5, Most: "5"}}, 0, api.AnBest, "-10"},
	} {
		answer, e := settle.Grout(c.r, c.pads, c.class)
		equal(t, c.what, []any{answer.Kind, answer.Value, e}, []any{c.kind, c.value, api.OK})
	}
}

// TestGroutLaws: P5.4, P5.5 and P0.2, an answer holds, buildings are in the class whatever ground is lost, and no lesser
// amount holds them there.
func TestGroutLaws(t *testing.T) {
	r := rand.New(rand.NewSource(21))
	kinds, some := map[api.AnswerKind]int{}, 0
	for range 500 {
		route := randomRoute(r, 4)
		route.Limits = append(numbers("1/50"), route.Limits...)
		pads, class := randomPads(r, 1+r.Intn(5)), r.Intn(len(route.Limits))
		l, goal, e := settle.Plan(route, pads, class)
		answer, f := settle.Grout(route, pads, class)
		equal(t, "error", []any{e, f}, []any{api.OK, api.OK})
		equal(t, "holds", exact.Verify(l, goal, answer), api.OK)
		l, goal = planOf(route, pads, class)
		equal(t, "holds for the rows by words", exact.Verify(l, goal, answer), api.OK)
		kinds[answer.Kind]++
		if answer.Kind != api.AnBest {
			equal(t, "never free", answer.Kind, api.AnEmpty)
			continue
		}
		put, total := amountsOf(answer.Point, len(pads))
		equal(t, "the amount", frac(new(big.Rat).Neg(total)), answer.Value)
		if total.Sign() > 0 {
			some++
		}
		for _, lost := range append(cornersOf(route), within(r, route), within(r, route)) {
			for _, h := range route.Houses {
				tilt := tiltAt(h, func(x int) *big.Rat { return minus(sinkingAt(route, lost, x), lifted(pads, put, x)) })
				if classAt(route, tilt) > class {
					t.Fatal("not in the class", class, said(route, pads, lost, put))
				}
			}
		}
	}
	if kinds[api.AnBest] < 50 || kinds[api.AnEmpty] < 50 || some < 20 {
		t.Error("too few:", kinds, some)
	}
}

// amountsOf returns how much a point puts at each pad, and how much that is together.
func amountsOf(point []api.Value, pads int) (put []*big.Rat, total *big.Rat) {
	put, total = make([]*big.Rat, pads), new(big.Rat)
	for k := range put {
		put[k] = new(big.Rat)
	}
	for _, v := range point {
		var k int
		fmt.Sscanf(v.Name, "g-%d", &k)
		put[k] = rat(v.Value)
		total = plus(total, put[k])
	}
	return put, total
}
