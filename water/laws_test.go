package water_test

import (
	"fmt"
	"math/rand"
	"reflect"
	"slices"
	"strings"
	"sync"
	"testing"

	"underpin/api"
	"underpin/exact"
	"underpin/water"
)

// given is what functions are called with.
type given struct {
	n                           api.Net
	cond, heads, flows          []api.Frac
	node, pipe, a, b            int
	bottom, load, length, limit api.Frac
	wells                       []int
	limits                      []api.Level
}

// results calls all functions, fails if one of them has a result beside an error, and writes what they return.
func (g given) results(t *testing.T) string {
	t.Helper()
	var out strings.Builder
	keep := func(what string, e api.Errno, l ...any) {
		t.Helper()
		alone(t, what, e, l...)
		out.WriteString(said(what, l, e) + "\n")
	}
	keep("Check", api.OK, water.Check(g.n))
	heads, e := water.Heads(g.n, g.cond)
	keep("Heads", e, heads)
	flows, e := water.Flows(g.n, g.cond)
	keep("Flows", e, flows)
	yes, e := water.Balanced(g.n, g.cond, g.heads)
	keep("Balanced", e, yes)
	low, high, e := water.Head(g.n, g.node)
	keep("Head", e, low, high)
	low, high, e = water.Drop(g.n, g.pipe)
	keep("Drop", e, low, high)
	margin, safe, e := water.Uplift(g.n, g.node, g.bottom, g.load)
	keep("Uplift", e, margin, safe)
	worst, safe, e := water.Piping(g.n, g.pipe, g.length, g.limit)
	keep("Piping", e, worst, safe)
	whole, e := water.Whole(g.n, g.cond, g.a, g.b)
	keep("Whole", e, whole)
	above, e := water.Above(g.n, g.a, g.b, g.heads)
	keep("Above", e, above)
	below, e := water.Below(g.n, g.a, g.b, g.flows)
	keep("Below", e, below)
	rows, goal, e := water.Plan(g.n, g.cond, g.wells, g.limits)
	keep("Plan", e, rows, goal)
	equal(t, "Plan", exact.Check(rows), api.OK)
	answer, f := water.Dewater(g.n, g.cond, g.wells, g.limits)
	keep("Dewater", f, answer)
	equal(t, "Dewater", f, e)
	return out.String()
}

// alone fails if there is a result beside an error.
func alone(t *testing.T, what string, e api.Errno, results ...any) {
	t.Helper()
	for _, result := range results {
		if e != api.OK && !reflect.ValueOf(result).IsZero() {
			t.Fatal(what, "has a result beside the error", e, result)
		}
	}
}

// randomGiven makes arguments without errors, as far as the net has nodes enough.
func randomGiven(r *rand.Rand) given {
	n := randomNet(r, 7, 3)
	g := given{n: n, cond: anyCond(r, n), wells: free(r, n), bottom: "1/2", load: "7", length: "3", limit: "2"}
	g.node, g.a, g.b = r.Intn(len(n.Nodes)), r.Intn(len(n.Nodes)), r.Intn(len(n.Nodes))
	g.heads = headsOf(n, g.cond)
	if r.Intn(2) == 0 && g.a != g.b && joinedTo(n, g.a)[g.b] {
		_, g.heads = wholeOf(n, g.cond, g.a, g.b)
		g.flows = unitFlowOf(n, g.cond, g.a, g.b)
	}
	if len(n.Pipes) > 0 {
		g.pipe = r.Intn(len(n.Pipes))
	}
	for _, k := range r.Perm(len(n.Nodes))[:r.Intn(len(n.Nodes)+1)] {
		g.limits = append(g.limits, api.Level{Node: k, Value: "5"})
	}
	return g
}

// TestArgumentsAndTwins: R4 and R10, no argument changes, and equal calls return equal results.
func TestArgumentsAndTwins(t *testing.T) {
	r := rand.New(rand.NewSource(40))
	for range 100 {
		g := randomGiven(r)
		before := fmt.Sprintf("%#v", g)
		first := g.results(t)
		equal(t, "arguments", fmt.Sprintf("%#v", g), before)
		equal(t, "twins", g.results(t), first)
	}
}

// TestNilAndEmpty: R3, nil and empty lists are the same.
func TestNilAndEmpty(t *testing.T) {
	g := given{n: api.Net{Nodes: []string{"a"}, Heads: []api.Level{{Value: "3"}}}, heads: numbers("3"), bottom: "0", load: "0", length: "1", limit: "1"}
	h := g
	h.n.Pipes, h.n.Wells, h.cond, h.flows, h.wells, h.limits = []api.Pipe{}, []api.Level{}, []api.Frac{}, []api.Frac{}, []int{}, []api.Level{}
	equal(t, "empty", h.results(t), g.results(t))
}

// TestManyAtOnce: R10, calls at the same time do not influence one another.
func TestManyAtOnce(t *testing.T) {
	g := given{n: ladder(6, 6), node: 4, pipe: 3, a: 0, b: 1, bottom: "0", load: "9", length: "1", limit: "1", wells: []int{2, 5}, limits: []api.Level{{Node: 5, Value: "1/8"}}}
	g.cond = slices.Repeat(numbers("3/2"), len(g.n.Pipes))
	_, g.heads = wholeOf(g.n, g.cond, 0, 1)
	g.flows = unitFlowOf(g.n, g.cond, 0, 1)
	want := g.results(t)
	var all sync.WaitGroup
	got := make([]string, 8)
	for i := range got {
		all.Go(func() { got[i] = g.results(t) })
	}
	all.Wait()
	for _, s := range got {
		equal(t, "at once", s, want)
	}
}

// TestMemory: R4, results share no memory with arguments or with each other.
func TestMemory(t *testing.T) {
	n, cond := example(), numbers("2 1")
	n.Heads = append(make([]api.Level, 0, 9), n.Heads...)
	before := said(n, cond)
	heads := mustHeads(t, n, cond)
	heads[0] = "?"
	flows, _ := water.Flows(n, cond)
	flows[0] = "?"
	equal(t, "Heads", mustHeads(t, n, cond), numbers("0 3 9"))
	flows, _ = water.Flows(n, cond)
	equal(t, "Flows", flows, numbers("-6 -6"))
	wells, limits := []int{1}, []api.Level{{Node: 1, Value: "2"}}
	l, goal, _ := water.Plan(n, cond, wells, limits)
	for i := range l { // each row has terms of its own, and so has the goal
		for k := range l[i].Terms {
			if l[i].Terms[k].Coef == "?" {
				t.Fatal("shared terms in row", i)
			}
			l[i].Terms[k].Coef = "?"
		}
		_ = append(l[i].Terms, api.Term{Name: "?", Coef: "?"})
	}
	equal(t, "goal", goal[0].Coef, api.Frac("-1"))
	again, _, _ := water.Plan(n, cond, wells, limits)
	equal(t, "Plan", said(again), said(rows(t, "-1 q-01 <= 0\n-1/3 q-01 <= -1\n")))
	equal(t, "arguments", said(n, cond), before)
}

// junk makes arguments of any form, most of them close to good ones.
type junk struct {
	*rand.Rand
	texts []string
}

func (j junk) text() string {
	return j.texts[j.Intn(len(j.texts))]
}

func (j junk) number() api.Frac {
	if j.Intn(15) > 0 {
		return api.Frac(fmt.Sprint(1 + j.Intn(5)))
	}
	return api.Frac(j.text())
}

func (j junk) whole(n int) int {
	if j.Intn(20) == 0 {
		return []int{-1 << 63, 1<<63 - 1, 1 << 32, -7, 24}[j.Intn(5)]
	}
	return j.Intn(n + 1)
}

func (j junk) numbers(n int) (l []api.Frac) {
	if j.Intn(15) == 0 {
		n = j.Intn(60)
	}
	for range n {
		l = append(l, j.number())
	}
	return l
}

func (j junk) levels(n, upTo int) (l []api.Level) {
	for range j.Intn(upTo) {
		l = append(l, api.Level{Node: j.whole(n), Value: j.number()})
	}
	return l
}

// spoilt changes something of a net.
func (j junk) spoilt(n api.Net) api.Net {
	k := len(n.Nodes)
	switch j.Intn(5) {
	case 0:
		n.Nodes = append(slices.Clone(n.Nodes), j.text())
	case 1:
		n.Pipes = append(slices.Clone(n.Pipes), pipe(j.text(), j.whole(k), j.whole(k), j.number(), j.number()))
	case 2:
		n.Pipes = append(slices.Clone(n.Pipes), pipe("more", j.whole(k), j.whole(k), j.number(), j.number()))
	case 3:
		n.Heads = append(slices.Clone(n.Heads), j.levels(k, 2)...)
	case 4:
		n.Wells = append(slices.Clone(n.Wells), j.levels(k, 2)...)
	}
	return n
}

func (j junk) given() given {
	g := randomGiven(j.Rand)
	if j.Intn(2) == 0 {
		g.n = j.spoilt(g.n)
	}
	nodes, pipes := len(g.n.Nodes), len(g.n.Pipes)
	if j.Intn(2) == 0 {
		g.cond, g.flows = j.numbers(pipes), j.numbers(pipes)
		g.heads = j.numbers(nodes)
	}
	if j.Intn(3) == 0 {
		g.node, g.pipe, g.a, g.b = j.whole(nodes), j.whole(pipes), j.whole(nodes), j.whole(nodes)
		g.wells, g.limits = append(g.wells, j.whole(nodes)), append(g.limits, j.levels(nodes, 30)...)
	}
	if j.Intn(3) == 0 {
		g.bottom, g.load, g.length, g.limit = j.number(), j.number(), j.number(), j.number()
	}
	return g
}

// TestAnything: P0.1, R2 and R8, whatever is given, each function ends, and has nothing beside an error.
func TestAnything(t *testing.T) {
	j := junk{rand.New(rand.NewSource(41)), []string{
		"", "0", "1", "-1", "1/2", "-7/3", "x", "X", "-", "/", "1/0", "00", "2/4", "\x00\xff", "é", " ", "n0", "p0",
		most12, over12, strings.Repeat("a", api.MaxName+1), "1/" + most12, most, "1/" + most, most + "0",
	}}
	good := 0
	for range 1500 {
		g := j.given()
		if water.Check(g.n) == api.OK {
			good++
		}
		g.results(t)
	}
	if good < 500 {
		t.Error("too few:", good)
	}
	given{}.results(t)
	given{n: api.Net{Nodes: make([]string, 100000), Pipes: make([]api.Pipe, 100000), Heads: make([]api.Level, 100000)}, cond: make([]api.Frac, 100000)}.results(t)
}
