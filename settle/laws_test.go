package settle_test

import (
	"fmt"
	"math/rand"
	"slices"
	"strings"
	"sync"
	"testing"

	"underpin/api"
	"underpin/exact"
	"underpin/settle"
)

// given is what functions are called with.
type given struct {
	b               api.Bed
	steps           int
	target          api.Frac
	r               api.Route
	x, house, class int
	pads            []api.Pad
}

// results calls all functions, fails if one of them has a result beside an error, and writes what they return.
func (g given) results(t *testing.T) string {
	t.Helper()
	var out strings.Builder
	keep := func(what string, e api.Errno, l ...any) {
		t.Helper()
		alone(t, what, e, l...)
		out.WriteString(said(what, l, e) + "\n")
	}
	keep("CheckBed", api.OK, settle.CheckBed(g.b))
	pressures, e := settle.After(g.b, g.steps)
	keep("After", e, pressures)
	settled, e := settle.Settled(g.b, g.steps)
	keep("Settled", e, settled)
	when, e := settle.When(g.b, g.target)
	keep("When", e, when)
	keep("CheckRoute", api.OK, settle.CheckRoute(g.r))
	low, high, e := settle.Sink(g.r, g.x)
	keep("Sink", e, low, high)
	low, high, e = settle.Tilt(g.r, g.house)
	keep("Tilt", e, low, high)
	least, most, e := settle.Class(g.r, g.house)
	keep("Class", e, least, most)
	rows, goal, e := settle.Plan(g.r, g.pads, g.class)
	keep("Plan", e, rows, goal)
	equal(t, "Plan", exact.Check(rows), api.OK)
	answer, f := settle.Grout(g.r, g.pads, g.class)
	keep("Grout", f, answer)
	equal(t, "Grout", f, e)
	return out.String()
}

// randomGiven makes arguments without errors, as far as the route has buildings and limits.
func randomGiven(r *rand.Rand) given {
	g := given{b: randomBed(r, 4, 20), steps: r.Intn(20), target: some(r, 30, 3), r: randomRoute(r, 4), x: r.Intn(41) - 20}
	g.house, g.class, g.pads = r.Intn(3), r.Intn(3), randomPads(r, r.Intn(4))
	return g
}

// TestArgumentsAndTwins: R4 and R10, no argument changes, and equal calls return equal results.
func TestArgumentsAndTwins(t *testing.T) {
	r := rand.New(rand.NewSource(40))
	for range 30 {
		g := randomGiven(r)
		before := fmt.Sprintf("%#v", g)
		first := g.results(t)
		equal(t, "arguments", fmt.Sprintf("%#v", g), before)
		equal(t, "twins", g.results(t), first)
	}
}

// TestNilAndEmpty: R3, nil and empty lists are the same.
func TestNilAndEmpty(t *testing.T) {
	g := given{b: exampleBed(), steps: 1, target: "1", r: api.Route{Limits: numbers("1")}}
	h := g
	h.b.Adds, h.r.Cuts, h.r.Houses, h.pads = []api.Add{}, []api.Cut{}, []api.House{}, []api.Pad{}
	equal(t, "empty", h.results(t), g.results(t))
	equal(t, "nothing", given{b: api.Bed{Slices: []api.Frac{}}, r: api.Route{Limits: []api.Frac{}}}.results(t), given{}.results(t))
}

// TestManyAtOnce: R10, calls at the same time do not influence one another.
func TestManyAtOnce(t *testing.T) {
	g := randomGiven(rand.New(rand.NewSource(42)))
	want := g.results(t)
	var all sync.WaitGroup
	got := make([]string, 8)
	for i := range got {
		all.Go(func() { got[i] = g.results(t) })
	}
	all.Wait()
	for _, s := range got {
		equal(t, "at once", s, want)
	}
}

// TestMemory: R4, results share no memory with arguments or with each other.
func TestMemory(t *testing.T) {
	b := exampleBed()
	for steps, want := range []string{"8 0 0", "4 2 0"} {
		l := mustAfter(t, b, steps)
		l[0] = "?"
		_ = append(l, "?")
		equal(t, "After", mustAfter(t, b, steps), numbers(want))
	}
	equal(t, "the bed", said(b), said(exampleBed()))
	r, pads := exampleRoute(), append(onePad(), onePad()...)
	l, goal, _ := settle.Plan(r, pads, 0)
	want := said(l, goal)
	lists := [][]api.Term{goal}
	for _, row := range l {
		lists = append(lists, row.Terms)
	}
	for _, list := range lists { // each list of terms has memory of its own
		for k := range list {
			if list[k].Coef == "?" {
				t.Fatal("shared terms")
			}
			list[k].Coef = "?"
		}
		_ = append(list, api.Term{Name: "?", Coef: "?"})
	}
	l[0].Bound = "?"
	l, goal, _ = settle.Plan(r, pads, 0)
	equal(t, "Plan", said(l, goal), want)
	answer, _ := settle.Grout(r, pads, 0)
	want = said(answer)
	answer.Point[0].Value, answer.Weights[0] = "?", "?"
	answer, _ = settle.Grout(r, pads, 0)
	equal(t, "Grout", said(answer), want)
	equal(t, "the route", said(r, pads), said(exampleRoute(), append(onePad(), onePad()...)))
}

// junk makes arguments of any form, most of them close to good ones.
type junk struct {
	*rand.Rand
	texts []string
}

func (j junk) text() string {
	return j.texts[j.Intn(len(j.texts))]
}

func (j junk) number() api.Frac {
	if j.Intn(4) > 0 {
		return api.Frac(fmt.Sprint(j.Intn(5)))
	}
	return api.Frac(j.text())
}

func (j junk) whole(n int) int {
	if j.Intn(10) == 0 {
		return []int{-1 << 63, 1<<63 - 1, 1 << 32, -7, 201, 100001}[j.Intn(6)]
	}
	return j.Intn(n + 1)
}

// spoil changes something of a bed, and something of a route.
func (j junk) spoil(g *given) {
	g.b, g.r = copiedBed(g.b), copiedRoute(g.r)
	switch j.Intn(5) {
	case 0:
		g.b.Slices = append(g.b.Slices, j.number())
	case 1:
		g.b.Rate = j.number()
	case 2:
		g.b.Soft = j.number()
	case 3:
		g.b.Adds = append(g.b.Adds, api.Add{Step: j.whole(200), Pressure: j.number()})
	case 4:
		g.b.Slices = slices.Repeat(g.b.Slices, 1+j.Intn(20))
	}
	switch j.Intn(5) {
	case 0:
		g.r.Cuts = append(g.r.Cuts, api.Cut{X: j.whole(50), Half: j.whole(50), Low: j.number(), High: j.number()})
	case 1:
		g.r.Houses = append(g.r.Houses, api.House{Name: j.text(), From: j.whole(50), To: j.whole(50)})
	case 2:
		g.r.Houses = append(g.r.Houses, api.House{Name: "more", From: j.whole(50), To: j.whole(50)})
	case 3:
		g.r.Limits = append(g.r.Limits, j.number())
	case 4:
		g.r.Limits = []api.Frac{j.number()}
	}
}

func (j junk) given() given {
	g := randomGiven(j.Rand)
	if j.Intn(2) == 0 {
		j.spoil(&g)
	}
	if j.Intn(3) == 0 {
		g.steps, g.target, g.x, g.house, g.class = j.whole(200), api.Frac(j.text()), j.whole(100), j.whole(2), j.whole(2)
	}
	if j.Intn(3) == 0 {
		g.pads = append(g.pads, api.Pad{X: j.whole(50), Half: j.whole(50), Most: j.number()})
	}
	return g
}

// TestAnything: P0.1, R2 and R8, whatever is given, each function ends, and has nothing beside an error.
func TestAnything(t *testing.T) {
	j := junk{rand.New(rand.NewSource(41)), []string{
		"", "0", "1", "-1", "1/2", "1/3", "-7/3", "x", "X", "-", "/", "1/0", "00", "2/4", "\x00\xff", "é", " ", "h0", "h7",
		"9999", "10000", "1/9973", "-1/9973", strings.Repeat("a", api.MaxName), strings.Repeat("a", api.MaxName+1), most, "1/" + most, most + "0",
	}}
	beds, routes := 0, 0
	for range 200 {
		g := j.given()
		if settle.CheckBed(g.b) == api.OK {
			beds++
		}
		if settle.CheckRoute(g.r) == api.OK {
			routes++
		}
		g.results(t)
	}
	if min(beds, routes) < 80 || max(beds, routes) > 180 {
		t.Error("too few, or too many:", beds, routes)
	}
	given{}.results(t)
	long := given{b: exampleBed(), r: exampleRoute(), pads: make([]api.Pad, 100000)}
	long.b.Adds, long.r.Houses = make([]api.Add, 100000), make([]api.House, 100000)
	long.results(t)
}

// TestReadme: the example of the README.
func TestReadme(t *testing.T) {
	b := api.Bed{Slices: []api.Frac{"8", "0", "0"}, Rate: "1/4", Soft: "1/2"}
	pressures, e := settle.After(b, 2)
	equal(t, "After", []any{pressures, e}, []any{numbers("5/2 2 1/2"), api.OK})
	down, e := settle.Settled(b, 2)
	equal(t, "Settled", []any{down, e}, []any{api.Frac("3/2"), api.OK})
	steps, e := settle.When(b, "3/2")
	equal(t, "When", []any{steps, e}, []any{2, api.OK})
	r := api.Route{
		Cuts:   []api.Cut{{X: 0, Half: 10, Low: "10", High: "20"}},
		Houses: []api.House{{Name: "h", From: 0, To: 10}},
		Limits: []api.Frac{"1/20", "1/5"},
	}
	low, high, e := settle.Sink(r, 5)
	equal(t, "Sink", []any{low, high, e}, []any{api.Frac("1/2"), api.Frac("1"), api.OK})
	low, high, e = settle.Tilt(r, 0)
	equal(t, "Tilt", []any{low, high, e}, []any{api.Frac("-1/5"), api.Frac("-1/10"), api.OK})
	least, most, e := settle.Class(r, 0)
	equal(t, "Class", []any{least, most, e}, []any{1, 1, api.OK})
	pads := []api.Pad{{X: 0, Half: 10, Most: "30"}}
	answer, e := settle.Grout(r, pads, 0)
	equal(t, "Grout", []any{answer.Value, e}, []any{api.Frac("-15"), api.OK})
	rows, goal, e := settle.Plan(r, pads, 0)
	equal(t, "Plan", []any{exact.Verify(rows, goal, answer), e}, []any{api.OK, api.OK})
}
