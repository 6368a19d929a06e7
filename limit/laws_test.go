package limit_test

import (
	"fmt"
	"math/rand"
	"reflect"
	"slices"
	"strings"
	"sync"
	"testing"

	"underpin/api"
	"underpin/exact"
	"underpin/limit"
)

// given is what functions are called with.
type given struct {
	m            api.Mesh
	sense        int
	field, moves []api.Value
	load         api.Frac
}

// results calls all functions, fails if one of them has a result beside an error, and writes what they return.
func (g given) results(t *testing.T) string {
	t.Helper()
	var out strings.Builder
	keep := func(what string, e api.Errno, l ...any) {
		t.Helper()
		alone(t, what, e, l...)
		out.WriteString(said(what, l, e) + "\n")
	}
	keep("Check", api.OK, limit.Check(g.m))
	joints, e := limit.Joints(g.m)
	keep("Joints", e, joints)
	rows, goal, e := limit.Lower(g.m)
	keep("Lower", e, rows, goal)
	equal(t, "Lower", exact.Check(rows), api.OK)
	rows, goal, e = limit.Upper(g.m, g.sense)
	keep("Upper", e, rows, goal)
	equal(t, "Upper", exact.Check(rows), api.OK)
	load, is, e := limit.Bears(g.m, g.field)
	keep("Bears", e, load, is)
	equal(t, "Bears", load != "", is)
	load, is, e = limit.Breaks(g.m, g.sense, g.moves)
	keep("Breaks", e, load, is)
	equal(t, "Breaks", load != "", is)
	lower, upper, e := limit.Most(g.m)
	keep("Most", e, lower, upper)
	lower, upper, e = limit.Least(g.m)
	keep("Least", e, lower, upper)
	yes, weights, field, e := limit.Safe(g.m, g.load)
	keep("Safe", e, yes, weights, field)
	if e == api.OK && yes == (len(weights) > 0) {
		t.Error("Safe without a proof, or with two")
	}
	return out.String()
}

// alone fails if there is a result beside an error.
func alone(t *testing.T, what string, e api.Errno, results ...any) {
	t.Helper()
	for _, result := range results {
		if e != api.OK && !reflect.ValueOf(result).IsZero() {
			t.Fatal(what, "has a result beside the error", e, result)
		}
	}
}

// randomGiven makes arguments without errors.
func randomGiven(t testing.TB, r *rand.Rand) given {
	m := block(r, 1+r.Intn(2), 1, r.Intn(2) == 0)
	if r.Intn(3) == 0 {
		if other := tangle(r, 3+r.Intn(5), 1+r.Intn(4)); len(other.Faces) > 0 {
			m = other
		}
	}
	g := given{m: m, sense: 1 - 2*r.Intn(2), load: api.Frac(fmt.Sprint(r.Intn(9) - 4))}
	lower, upper, e := limit.Most(m)
	equal(t, "Most", e, api.OK)
	g.field, g.moves = lower.Point, upper.Point
	return g
}

// TestArgumentsAndTwins: R4 and R10, no argument changes, and equal calls return equal results.
func TestArgumentsAndTwins(t *testing.T) {
	r := rand.New(rand.NewSource(40))
	for range 30 {
		g := randomGiven(t, r)
		before := fmt.Sprintf("%#v", g)
		first := g.results(t)
		equal(t, "arguments", fmt.Sprintf("%#v", g), before)
		equal(t, "twins", g.results(t), first)
	}
}

// TestNilAndEmpty: R3, nil and empty lists are the same.
func TestNilAndEmpty(t *testing.T) {
	g := given{m: example(), sense: 1, load: "0"}
	g.m.Sides = nil
	h := g
	h.m.Sides, h.field, h.moves = []api.Side{}, []api.Value{}, []api.Value{}
	equal(t, "empty", h.results(t), g.results(t))
	equal(t, "nothing", given{m: api.Mesh{Soils: []api.Soil{}, Spots: []api.Spot{}, Faces: []api.Face{}, Sides: []api.Side{}}}.results(t), given{}.results(t))
}

// TestManyAtOnce: R10, calls at the same time do not influence one another.
func TestManyAtOnce(t *testing.T) {
	g := randomGiven(t, rand.New(rand.NewSource(42)))
	want := g.results(t)
	var all sync.WaitGroup
	got := make([]string, 8)
	for i := range got {
		all.Go(func() { got[i] = g.results(t) })
	}
	all.Wait()
	for _, s := range got {
		equal(t, "at once", s, want)
	}
}

// TestMemory: R4, results share no memory with arguments or with each other.
func TestMemory(t *testing.T) {
	m := example()
	m.Sides = append(make([]api.Side, 0, 9), m.Sides...)
	before := said(m)
	joints, _ := limit.Joints(m)
	want := said(joints)
	joints[0].Left = 9
	joints, _ = limit.Joints(m)
	equal(t, "Joints", said(joints), want)
	for what, program := range map[string]func() ([]api.Row, []api.Term, api.Errno){
		"Lower": func() ([]api.Row, []api.Term, api.Errno) { return limit.Lower(m) },
		"Upper": func() ([]api.Row, []api.Term, api.Errno) { return limit.Upper(m, 1) },
	} {
		rows, goal, _ := program()
		want := said(rows, goal)
		for _, l := range append([][]api.Term{goal}, termsOfAll(rows)...) { // each list of terms has memory of its own
			for k := range l {
				if l[k].Coef == "?" {
					t.Fatal(what, "shares terms")
				}
				l[k].Coef = "?"
			}
			_ = append(l, api.Term{Name: "?", Coef: "?"})
		}
		rows, goal, _ = program()
		equal(t, what, said(rows, goal), want)
	}
	field := point(field)
	_, _, found, _ := limit.Safe(m, "1")
	found[0].Value = "?"
	_, _, found, _ = limit.Safe(m, "1")
	equal(t, "Safe", found[0].Value, api.Frac("1"))
	lower, upper, _ := limit.Most(m)
	lower.Point[0].Value, upper.Point[0].Value, lower.Weights[0], upper.Weights[0] = "?", "?", "?", "?"
	mustMost(t, m, 1)
	limit.Bears(m, field)
	equal(t, "arguments", said(m, field), said(example(), point("load 1 y-00 -1 y-01 -1")))
	equal(t, "arguments", said(m), before)
}

// termsOfAll returns the terms of rows.
func termsOfAll(rows []api.Row) [][]api.Term {
	var l [][]api.Term
	for _, row := range rows {
		l = append(l, row.Terms)
	}
	return l
}

// junk makes arguments of any form, most of them close to good ones.
type junk struct {
	*rand.Rand
	texts []string
}

func (j junk) text() string {
	return j.texts[j.Intn(len(j.texts))]
}

func (j junk) number() api.Frac {
	if j.Intn(9) > 0 {
		return api.Frac(fmt.Sprint(j.Intn(5) - 1))
	}
	return api.Frac(j.text())
}

func (j junk) whole(n int) int {
	if j.Intn(20) == 0 {
		return []int{-1 << 63, 1<<63 - 1, 1 << 32, -7, 24}[j.Intn(5)]
	}
	return j.Intn(n + 1)
}

func (j junk) point(names string) []api.Value {
	var l []api.Value
	for _, name := range strings.Fields(names) {
		if j.Intn(2) == 0 {
			l = append(l, api.Value{Name: name, Value: j.number()})
		}
	}
	if j.Intn(5) == 0 {
		l = append(l, api.Value{Name: j.text(), Value: j.number()})
	}
	return l
}

// spoilt changes something of a mesh.
func (j junk) spoilt(m api.Mesh) api.Mesh {
	m = copied(m)
	switch j.Intn(6) {
	case 0:
		m.Soils[0].Cohesion = j.number()
	case 1:
		m.Soils = append(m.Soils, api.Soil{Cohesion: j.number(), Sin: j.number(), Cos: j.number(), Weight: j.number()})
	case 2:
		m.Spots[j.Intn(len(m.Spots))] = api.Spot{X: j.whole(2000) - 900, Y: j.whole(2000) - 900}
	case 3:
		m.Faces = append(m.Faces, api.Face{A: j.whole(len(m.Spots)), B: j.whole(len(m.Spots)), C: j.whole(len(m.Spots)), Soil: j.whole(len(m.Soils))})
	case 4:
		m.Sides = append(m.Sides, api.Side{A: j.whole(len(m.Spots)), B: j.whole(len(m.Spots)), Fixed: j.Intn(2) == 0, LivePress: j.number()})
	case 5:
		if len(m.Sides) > 0 {
			m.Sides[0].Press, m.Sides[0].LiveShear = j.number(), j.number()
		}
	}
	return m
}

func (j junk) given(t testing.TB) given {
	g := randomGiven(t, j.Rand)
	if j.Intn(2) == 0 {
		g.m = j.spoilt(g.m)
	}
	if j.Intn(3) == 0 {
		g.field, g.moves = j.point("load t-00 t-01 x-00 y-00 y-01"), j.point("s-00 s-02 u-00 u-01 w-00 w-01")
	}
	if j.Intn(3) == 0 {
		g.sense, g.load = j.whole(1), j.number()
	}
	return g
}

// TestAnything: P0.1, R2 and R8, whatever is given, each function ends, and has nothing beside an error.
func TestAnything(t *testing.T) {
	j := junk{rand.New(rand.NewSource(41)), []string{
		"", "0", "1", "-1", "1/2", "-7/3", "x", "X", "-", "/", "1/0", "00", "2/4", "\x00\xff", "é", " ", "load", "x-00",
		"9999", "10000", "1/9973", most12, over12, strings.Repeat("a", api.MaxName+1), "1/" + most12, most, "1/" + most, most + "0",
	}}
	good := 0
	for range 150 {
		g := j.given(t)
		if limit.Check(g.m) == api.OK {
			good++
		}
		g.results(t)
	}
	if good < 60 || good > 130 {
		t.Error("too few, or too many:", good)
	}
	given{}.results(t)
	given{m: api.Mesh{Soils: make([]api.Soil, 100000), Spots: make([]api.Spot, 100000), Faces: make([]api.Face, 100000), Sides: make([]api.Side, 100000)}}.results(t)
}

// TestReadme: the example of the README.
func TestReadme(t *testing.T) {
	m := api.Mesh{
		Soils: []api.Soil{{Cohesion: "1", Sin: "0", Cos: "1", Weight: "0"}},
		Spots: []api.Spot{{X: 0, Y: 0}, {X: 1, Y: 0}, {X: 1, Y: 1}, {X: 0, Y: 1}},
		Faces: []api.Face{{A: 0, B: 1, C: 2}, {A: 0, B: 2, C: 3}},
		Sides: []api.Side{{A: 0, B: 1, Fixed: true}, {A: 2, B: 3, LivePress: "1"}},
	}
	lower, upper, e := limit.Most(m)
	equal(t, "Most", []any{lower.Value, upper.Value, e}, []any{api.Frac("2"), api.Frac("-2"), api.OK})
	load, is, e := limit.Bears(m, lower.Point)
	equal(t, "Bears", []any{load, is, e}, []any{api.Frac("2"), true, api.OK})
	load, is, e = limit.Breaks(m, 1, upper.Point)
	equal(t, "Breaks", []any{load, is, e}, []any{api.Frac("2"), true, api.OK})
	yes, weights, _, e := limit.Safe(m, "3")
	equal(t, "Safe", []any{yes, e}, []any{false, api.OK})
	rows, _, _ := limit.Lower(m)
	rows = append(rows, api.Row{Terms: []api.Term{{Name: "load", Coef: "1"}}, Bound: "3"}, api.Row{Terms: []api.Term{{Name: "load", Coef: "-1"}}, Bound: "-3"})
	proved, e := exact.CheckEmpty(rows, weights)
	equal(t, "CheckEmpty", []any{proved, e}, []any{true, api.OK})
	joints, e := limit.Joints(m)
	equal(t, "Joints", []any{slices.Contains(joints, api.Joint{A: 2, B: 0, Left: 0, Right: 1}), e}, []any{true, api.OK})
}
