package ground_test

import (
	"fmt"
	"math/big"
	"math/rand"
	"reflect"
	"strings"
	"sync"
	"testing"

	"underpin/api"
	"underpin/exact"
	"underpin/ground"
)

// TestFewerStatements: P2.9 and P0.1, statements allow models that their rows allow, and a statement more allows none more.
func TestFewerStatements(t *testing.T) {
	r := rand.New(rand.NewSource(10))
	kept, lost := 0, 0
	for range 300 {
		g, model := randomGround(r, 6, r.Intn(2) == 0)
		yes, e := ground.Allows(g, model)
		equal(t, "error", e, api.OK)
		if yes {
			for _, s := range g.Sayings {
				fewer, e := ground.Drop(g, s.Name)
				still, f := ground.Allows(fewer, model)
				equal(t, "without "+s.Name, []any{still, e, f}, []any{true, api.OK, api.OK})
			}
		}
		s, ok := randomSaying(r, g, randomModel(r, g))
		if !ok {
			continue
		}
		s.Name = "more"
		more, e := ground.Add(g, s)
		then, f := ground.Allows(more, model)
		equal(t, "with one more", []any{then, e, f}, []any{yes && agrees(g, model, s), api.OK, api.OK})
		if then {
			kept++
		} else if yes {
			lost++
		}
	}
	if kept < 20 || lost < 20 {
		t.Error("too few:", kept, lost)
	}
}

// TestTopsOfAllowedModels: P2.9, tops rise from 0 to Depth at all places.
func TestTopsOfAllowedModels(t *testing.T) {
	r := rand.New(rand.NewSource(11))
	for range 200 {
		g, _ := randomGround(r, 5, false)
		goal := terms()
		if len(g.Layers) > 1 {
			goal = terms("b-1-0", fmt.Sprint(r.Intn(2)*2-1))
		}
		a, e := ground.Most(g, goal) // its point is an allowed model at the edge of all of them
		equal(t, "most", []any{a.Kind, e}, []any{api.AnBest, api.OK})
		yes, e := ground.Allows(g, a.Point)
		equal(t, "allowed", []any{yes, e}, []any{true, api.OK})
		for x := g.Stations[0]; x <= g.Stations[len(g.Stations)-1]; x++ {
			l, e := ground.Tops(g, a.Point, x)
			equal(t, "error", e, api.OK)
			equal(t, "the first one", l[0], api.Frac("0"))
			for k, top := range append(l, g.Depth)[1:] {
				if rat(top).Cmp(rat(l[k])) < 0 {
					t.Fatal("falling:", said(g), a.Point, x, l)
				}
			}
		}
	}
}

// TestNoValueGrows: P2.9 and P0.1, with a statement more no greatest value grows.
func TestNoValueGrows(t *testing.T) {
	r := rand.New(rand.NewSource(12))
	less := 0
	for range 150 {
		g, model := randomGround(r, 8, r.Intn(3) == 0)
		var goal []api.Term
		for _, v := range model {
			if c := r.Intn(5) - 2; c != 0 {
				goal = append(goal, api.Term{Name: v.Name, Coef: api.Frac(fmt.Sprint(c))})
			}
		}
		var ahead *big.Rat
		empty := false
		for n := range len(g.Sayings) + 1 {
			a, e := ground.Most(only(g, func(i int) bool { return i < n }), goal)
			equal(t, "error", e, api.OK)
			if a.Kind == api.AnEmpty {
				empty = true
				continue
			}
			equal(t, "no model comes back", []any{a.Kind, empty}, []any{api.AnBest, false})
			if ahead != nil && rat(a.Value).Cmp(ahead) > 0 {
				t.Fatal("grown:", said(g), goal, n)
			}
			if ahead != nil && rat(a.Value).Cmp(ahead) < 0 {
				less++
			}
			ahead = rat(a.Value)
		}
	}
	if less < 50 {
		t.Error("too few:", less)
	}
}

// TestKnownSaysNothing: P2.6 and P2.9, without a statement that is known no greatest value is another one.
func TestKnownSaysNothing(t *testing.T) {
	r := rand.New(rand.NewSource(13))
	for range 100 {
		g, model := randomGround(r, 6, false)
		for _, s := range g.Sayings {
			yes, _ := ground.Known(g, s.Name)
			if !yes {
				continue
			}
			without, e := ground.Drop(g, s.Name)
			equal(t, "error", e, api.OK)
			for _, v := range model {
				a, _ := ground.Most(g, terms(v.Name, "1"))
				b, _ := ground.Most(without, terms(v.Name, "1"))
				equal(t, "most", a.Value, b.Value)
			}
		}
	}
}

// results calls all functions with a ground and what else they need, and writes what they return.
func results(g, h api.Ground, s api.Saying, model []api.Value, goal []api.Term, x int, depth api.Frac) string {
	var out strings.Builder
	keep := func(l ...any) { fmt.Fprintf(&out, "%q\n", fmt.Sprint(l...)) }
	a1, e := ground.Unknowns(g)
	keep(ground.Check(g), a1, e)
	a2, e := ground.Rows(g)
	keep(a2, e)
	a3, e := ground.Owners(g)
	keep(a3, e)
	a4, e := ground.Top(g, x, 1)
	keep(a4, e)
	a5, e := ground.Allows(g, model)
	keep(a5, e)
	a6, e := ground.Most(g, goal)
	keep(a6, e)
	a7, e := ground.Tops(g, model, x)
	keep(a7, e)
	a8, e := ground.Layer(g, model, x, depth)
	keep(a8, e)
	a9, e := ground.Add(g, s)
	keep(a9, e)
	b1, e := ground.Drop(g, s.Name)
	keep(b1, e)
	b2, e := ground.Known(g, s.Name)
	keep(b2, e)
	b3, e := ground.Quarrel(g)
	keep(b3, e)
	b4, e := ground.Compare(g, h)
	keep(b4, e)
	b5, e := ground.Print(g)
	keep(b5, e)
	b6, line, e := ground.Parse(b5)
	keep(b6, line, e)
	return out.String()
}

// TestArgumentsAndTwins: R4 and R10, no argument changes, and equal calls return equal results.
func TestArgumentsAndTwins(t *testing.T) {
	r := rand.New(rand.NewSource(14))
	for range 100 {
		g, model := randomGround(r, 6, true)
		h, _ := randomGround(r, 6, true)
		s, _ := randomSaying(r, g, model)
		s.Name = fmt.Sprintf("s%d", r.Intn(31))
		goal := terms("b-1-0", "1")
		snapshot := func() string { return fmt.Sprintf("%#v", []any{g, h, s, model, goal}) }
		before := snapshot()
		first := results(g, h, s, model, goal, g.Stations[0], "1/2")
		equal(t, "arguments", snapshot(), before)
		equal(t, "twins", results(g, h, s, model, goal, g.Stations[0], "1/2"), first)
	}
}

// TestManyAtOnce: R10, calls at the same time do not influence one another.
func TestManyAtOnce(t *testing.T) {
	g := with(example(), topSaying("x", 5, 1, "8", "8"), rowSaying(t, "r", "1 b-1-0 <= 3"))
	want := results(g, example(), g.Sayings[0], steep, terms("b-1-1", "1"), 5, "9")
	var all sync.WaitGroup
	got := make([]string, 8)
	for i := range got {
		all.Go(func() { got[i] = results(g, example(), g.Sayings[0], steep, terms("b-1-1", "1"), 5, "9") })
	}
	all.Wait()
	for _, s := range got {
		equal(t, "at once", s, want)
	}
}

// TestMemory: R4, results share no memory with arguments or with each other.
func TestMemory(t *testing.T) {
	g := with(example(), rowSaying(t, "r", "1 b-1-0 1 b-1-1 <= 30"))
	g.Stations, g.Sayings = append(make([]int, 0, 9), g.Stations...), append(make([]api.Saying, 0, 9), g.Sayings...)
	before := said(g)
	s := rowSaying(t, "q", "1 b-1-0 <= 3")
	spoil := func(h api.Ground) {
		h.Stations[0], h.Layers[0], h.Traits[0].Name = 99, "?", "?"
		for i := range h.Sayings {
			h.Sayings[i].Name = "?"
			for k := range h.Sayings[i].Row.Terms {
				h.Sayings[i].Row.Terms[k].Coef = "?"
			}
		}
		_ = append(h.Stations, 5)
		_ = append(h.Sayings, api.Saying{})
	}
	added, _ := ground.Add(g, s)
	spoil(added)
	equal(t, "Add", []any{said(g), s.Row.Terms[0].Coef}, []any{before, api.Frac("1")})
	again, _ := ground.Add(g, s)
	equal(t, "Add again", said(again), said(with(g, s)))
	dropped, _ := ground.Drop(g, "bh")
	spoil(dropped)
	equal(t, "Drop", said(g), before)
	parsed, _, _ := ground.Parse(exampleText)
	spoil(parsed)
	parsed, _, _ = ground.Parse(exampleText)
	equal(t, "Parse", said(parsed), said(example()))

	l := mustRows(t, g)
	want := text(t, mustRows(t, g))
	for i := range l { // each row has terms of its own
		for k := range l[i].Terms {
			if l[i].Terms[k].Coef == "?" {
				t.Fatal("shared terms in row", i)
			}
			l[i].Terms[k].Coef = "?"
		}
		_ = append(l[i].Terms, api.Term{Name: "?", Coef: "?"})
	}
	equal(t, "Rows", []any{said(g), text(t, mustRows(t, g))}, []any{before, want})
	top, _ := ground.Top(g, 5, 1)
	top[0] = api.Term{}
	owners, _ := ground.Owners(g)
	owners[0] = 7
	names, _ := ground.Unknowns(g)
	names[0] = "?"
	again2, _ := ground.Unknowns(g)
	equal(t, "Unknowns", again2[0], "b-1-0")
	owners, _ = ground.Owners(g)
	equal(t, "Owners", owners[0], -1)
	top, _ = ground.Top(g, 5, 1)
	equal(t, "Top", top, terms("b-1-0", "1/2", "b-1-1", "1/2"))
}

// junk makes arguments of any form, most of them close to good ones.
type junk struct {
	*rand.Rand
	texts []string
}

func (j junk) text() string {
	return j.texts[j.Intn(len(j.texts))]
}

func (j junk) name(good ...string) string {
	if j.Intn(12) > 0 {
		return good[j.Intn(len(good))]
	}
	return j.text()
}

func (j junk) number() api.Frac {
	if j.Intn(12) > 0 {
		return api.Frac(fmt.Sprint(j.Intn(9)))
	}
	return api.Frac(j.text())
}

func (j junk) unknown() string {
	return j.name("b-1-0", "b-1-1", "b-2-0", "t-p-0", "t-p-1", "t-p-2")
}

func (j junk) whole() int {
	if j.Intn(30) == 0 {
		return []int{-1 << 63, 1<<63 - 1, 1 << 32, -7, 100001}[j.Intn(5)]
	}
	return j.Intn(4)
}

func (j junk) terms() (l []api.Term) {
	for range j.Intn(3) {
		l = append(l, api.Term{Name: j.unknown(), Coef: j.number()})
	}
	return l
}

func (j junk) point() (l []api.Value) {
	for range j.Intn(3) {
		l = append(l, api.Value{Name: j.unknown(), Value: j.number()})
	}
	return l
}

func (j junk) saying() api.Saying {
	s := api.Saying{Name: j.name("u", "v", "w", "x"), Kind: api.SayingKind(1 + j.Intn(3))}
	if j.Intn(20) == 0 {
		s.Kind = api.SayingKind(j.Intn(256))
	}
	all := j.Intn(20) == 0
	if all || s.Kind == api.SaTop {
		s.X, s.Layer, s.Low, s.High = j.whole(), j.whole(), j.number(), j.number()
	}
	if all || s.Kind == api.SaTrait {
		s.Trait, s.Layer, s.Low, s.High = j.name("p"), j.whole(), j.number(), j.number()
	}
	if all || s.Kind == api.SaRow {
		s.Row = api.Row{Terms: j.terms(), Bound: j.number()}
	}
	return s
}

func (j junk) ground() api.Ground {
	g := api.Ground{Stations: []int{0, 3}, Depth: "9", Layers: []string{"a", "b", "c"}, Traits: []api.Trait{{Name: "p", Low: "0", High: "9"}}}
	if j.Intn(10) == 0 {
		g = api.Ground{Depth: j.number()}
		for range j.Intn(8) {
			g.Stations = append(g.Stations, j.whole())
			g.Layers = append(g.Layers, j.name("a", "b", "c", "d", "e", "f", "g", "h"))
			g.Traits = append(g.Traits, api.Trait{Name: j.name("p", "q"), Low: j.number(), High: j.number()})
		}
	}
	for range j.Intn(4) {
		g.Sayings = append(g.Sayings, j.saying())
	}
	return g
}

// alone fails if there is a result beside an error.
func alone(t *testing.T, what string, e api.Errno, results ...any) {
	t.Helper()
	for _, result := range results {
		if e != api.OK && !reflect.ValueOf(result).IsZero() {
			t.Fatal(what, "has a result beside the error", e, result)
		}
	}
}

// TestAnything: P0.1, R2 and R8, whatever is given, each function ends, and has nothing beside an error.
func TestAnything(t *testing.T) {
	j := junk{rand.New(rand.NewSource(15)), []string{
		"", "0", "1", "-1", "1/2", "-7/3", "x", "X", "-", "/", "1/0", "00", "2/4", "\x00\xff", "é", "<=", " ", "\n", "p", "b-1-0", "b-0-0", "t-p-3",
		"999999999999", "1000000000000", strings.Repeat("9", api.MaxDigits+1), strings.Repeat("a", api.MaxName+1), "1/" + most, most,
	}}
	good := 0
	for range 3000 {
		g, h, s, model, goal, x, depth := j.ground(), j.ground(), j.saying(), j.point(), j.terms(), j.whole(), j.number()
		e := ground.Check(g)
		if e == api.OK {
			good++
		}
		names, f := ground.Unknowns(g)
		alone(t, "Unknowns", f, names)
		rows, f := ground.Rows(g)
		alone(t, "Rows", f, rows)
		equal(t, "Rows", []any{f, exact.Check(rows)}, []any{e, api.OK})
		owners, f := ground.Owners(g)
		alone(t, "Owners", f, owners)
		top, f := ground.Top(g, x, j.whole())
		alone(t, "Top", f, top)
		yes, f := ground.Allows(g, model)
		alone(t, "Allows", f, yes)
		answer, f := ground.Most(g, goal)
		alone(t, "Most", f, answer)
		tops, f := ground.Tops(g, model, x)
		alone(t, "Tops", f, tops)
		layer, f := ground.Layer(g, model, x, depth)
		alone(t, "Layer", f, layer)
		more, f := ground.Add(g, s)
		alone(t, "Add", f, more)
		equal(t, "Add", ground.Check(with(g, s)), f)
		fewer, f := ground.Drop(g, s.Name)
		alone(t, "Drop", f, fewer)
		yes, f = ground.Known(g, s.Name)
		alone(t, "Known", f, yes)
		quarrel, f := ground.Quarrel(g)
		alone(t, "Quarrel", f, quarrel)
		changes, f := ground.Compare(g, h)
		alone(t, "Compare", f, changes)
		text, f := ground.Print(g)
		alone(t, "Print", f, text)
		back, line, f := ground.Parse(text + j.text() + "\n" + j.text())
		alone(t, "Parse", f, back)
		if f == api.OK && line != 0 {
			t.Fatal("a line without an error", line)
		}
	}
	if good < 500 {
		t.Error("too few:", good)
	}
}
