package ground_test

import (
	"fmt"
	"math/big"
	"math/rand"
	"testing"

	"underpin/api"
	"underpin/exact"
	"underpin/ground"
)

// text writes rows.
func text(t testing.TB, l []api.Row) string {
	t.Helper()
	s, e := exact.Print(l)
	if e != api.OK {
		t.Fatal(e, l)
	}
	return s
}

// exampleRows are the rows of the example, of 1., 2. and 3.
const exampleRows = `-1 b-1-0 <= 0
1 b-1-0 -1 b-2-0 <= 0
1 b-2-0 <= 20
-1 b-1-1 <= 0
1 b-1-1 -1 b-2-1 <= 0
1 b-2-1 <= 20
1 t-cohesion-0 <= 50
-1 t-cohesion-0 <= 0
1 t-cohesion-1 <= 50
-1 t-cohesion-1 <= 0
1 t-cohesion-2 <= 50
-1 t-cohesion-2 <= 0
1 b-1-0 <= 4
-1 b-1-0 <= -3
1 t-cohesion-1 <= 30
-1 t-cohesion-1 <= -10
`

// TestRows: P2.2, rows and owners, in order.
func TestRows(t *testing.T) {
	equal(t, "the example", text(t, mustRows(t, example())), exampleRows)
	owners, e := ground.Owners(example())
	equal(t, "error", e, api.OK)
	equal(t, "owners", owners, []int{-1, -1, -1, -1, -1, -1, -1, -1, -1, -1, -1, -1, 0, 0, 1, 1})

	g := with(example(), rowSaying(t, "r", "1/2 b-1-0 -3 t-cohesion-2 <= -7/3"), topSaying("x", 4, 1, "-1/2", "-1/2"), rowOf("-1"), topSaying("y", 10, 2, "0", "0"))
	equal(t, "statements", text(t, mustRows(t, g)), exampleRows+`1/2 b-1-0 -3 t-cohesion-2 <= -7/3
3/5 b-1-0 2/5 b-1-1 <= -1/2
-3/5 b-1-0 -2/5 b-1-1 <= 1/2
<= -1
1 b-2-1 <= 0
-1 b-2-1 <= 0
`)
	owners, _ = ground.Owners(g)
	equal(t, "owners", owners[12:], []int{0, 0, 1, 1, 2, 3, 3, 4, 5, 5})

	two := api.Ground{Stations: []int{3}, Depth: "1/2", Layers: []string{"a", "b"}, Traits: []api.Trait{{Name: "y", Low: "-1", High: "1/3"}, {Name: "x", Low: "2", High: "2"}}}
	equal(t, "two layers", text(t, mustRows(t, two)), `-1 b-1-0 <= 0
1 b-1-0 <= 1/2
1 t-y-0 <= 1/3
-1 t-y-0 <= 1
1 t-x-0 <= 2
-1 t-x-0 <= -2
1 t-y-1 <= 1/3
-1 t-y-1 <= 1
1 t-x-1 <= 2
-1 t-x-1 <= -2
`)
	two.Layers = two.Layers[:1]
	equal(t, "one layer", text(t, mustRows(t, two)), "1 t-y-0 <= 1/3\n-1 t-y-0 <= 1\n1 t-x-0 <= 2\n-1 t-x-0 <= -2\n")
	two.Traits = nil
	equal(t, "no unknowns", text(t, mustRows(t, two)), "")
	owners, e = ground.Owners(two)
	equal(t, "no unknowns", []any{len(owners), e}, []any{0, api.OK})
	two.Layers, two.Stations = []string{"a", "b", "c", "d"}, []int{3, 4}
	equal(t, "four layers", text(t, mustRows(t, two)), `-1 b-1-0 <= 0
1 b-1-0 -1 b-2-0 <= 0
1 b-2-0 -1 b-3-0 <= 0
1 b-3-0 <= 1/2
-1 b-1-1 <= 0
1 b-1-1 -1 b-2-1 <= 0
1 b-2-1 -1 b-3-1 <= 0
1 b-3-1 <= 1/2
`)
	equal(t, "the largest", len(mustRows(t, largest())), 6*6+2*5*6+2*40)
}

// TestOwnersAreRows: P2.2, there is an owner for each row, and rows of a statement are those that it adds.
func TestOwnersAreRows(t *testing.T) {
	r := rand.New(rand.NewSource(2))
	for range 100 {
		g, _ := randomGround(r, 8, true)
		l := mustRows(t, g)
		owners, e := ground.Owners(g)
		equal(t, "one for each", []any{len(owners), e}, []any{len(l), api.OK})
		for i := range g.Sayings {
			var mine []api.Row
			for k, owner := range owners {
				if owner == i {
					mine = append(mine, l[k])
				}
			}
			before := mustRows(t, only(g, func(k int) bool { return k < i }))
			upTo := mustRows(t, only(g, func(k int) bool { return k <= i }))
			equal(t, "rows of a statement", text(t, mine), text(t, upTo[len(before):]))
		}
	}
}

// TestTop: P2.2.
func TestTop(t *testing.T) {
	g := example()
	g.Stations = []int{-4, 0, 10}
	for _, c := range []struct {
		x, layer int
		want     []api.Term
	}{
		{4, 1, terms("b-1-1", "3/5", "b-1-2", "2/5")},
		{0, 1, terms("b-1-1", "1")},
		{-4, 2, terms("b-2-0", "1")},
		{10, 2, terms("b-2-2", "1")},
		{-3, 2, terms("b-2-0", "3/4", "b-2-1", "1/4")},
		{-2, 1, terms("b-1-0", "1/2", "b-1-1", "1/2")},
		{9, 1, terms("b-1-1", "1/10", "b-1-2", "9/10")},
	} {
		l, e := ground.Top(g, c.x, c.layer)
		equal(t, "error", e, api.OK)
		equal(t, fmt.Sprint(c.x, c.layer), l, c.want)
	}
	l, e := ground.Top(example(), 4, 1)
	equal(t, "the example", []any{l, e}, []any{terms("b-1-0", "3/5", "b-1-1", "2/5"), api.OK})
	for _, c := range []struct {
		x, layer int
		want     api.Errno
	}{
		{0, 0, api.ErrNone}, {0, 3, api.ErrNone}, {0, -1, api.ErrNone}, {99, 0, api.ErrNone}, {99, 1 << 60, api.ErrNone},
		{-5, 1, api.ErrScope}, {11, 2, api.ErrScope}, {-1 << 63, 1, api.ErrScope},
	} {
		l, e := ground.Top(g, c.x, c.layer)
		equal(t, fmt.Sprint(c.x, c.layer), []any{len(l), e}, []any{0, c.want})
	}
	wide := largest()
	l, e = ground.Top(wide, 50001, 5)
	equal(t, "far apart", []any{l, e}, []any{terms("b-5-3", "24999/49999", "b-5-4", "25000/49999"), api.OK})
}

// TestCheckedFirst: P2.1 to P2.7, all functions return Check's error ahead of all others, and nothing beside it.
func TestCheckedFirst(t *testing.T) {
	for _, c := range wrongs {
		g := example()
		c.change(&g)
		badPoint, badTerms := point("B", "1"), terms("B", "1")
		results := map[string][]any{}
		keep := func(name string) func(result any, e api.Errno) {
			return func(result any, e api.Errno) { results[name] = []any{result, e} }
		}
		show := func(x any, e api.Errno) (any, api.Errno) { return fmt.Sprint(x), e }
		l, e := ground.Unknowns(g)
		keep("Unknowns")(show(l, e))
		rows, e := ground.Rows(g)
		keep("Rows")(show(rows, e))
		owners, e := ground.Owners(g)
		keep("Owners")(show(owners, e))
		top, e := ground.Top(g, 99, 99)
		keep("Top")(show(top, e))
		answer, e := ground.Most(g, badTerms)
		keep("Most")(show(answer, e))
		tops, e := ground.Tops(g, badPoint, 99)
		keep("Tops")(show(tops, e))
		added, e := ground.Add(g, api.Saying{Name: "bh"})
		if c.part != "sayings" { // the statement may come ahead of the error
			keep("Add")(show(added, e))
		}
		dropped, e := ground.Drop(g, "none")
		keep("Drop")(show(dropped, e))
		quarrel, e := ground.Quarrel(g)
		keep("Quarrel")(show(quarrel, e))
		changes, e := ground.Compare(g, api.Ground{})
		keep("Compare")(show(changes, e))
		changes, e = ground.Compare(example(), g)
		keep("Compare of the second one")(show(changes, e))
		empty := map[string]string{"Most": fmt.Sprint(api.Answer{}), "Add": fmt.Sprint(api.Ground{}), "Drop": fmt.Sprint(api.Ground{})}
		for name, result := range results {
			want := empty[name]
			if want == "" {
				want = "[]"
			}
			equal(t, name+", "+c.what, result, []any{want, c.want})
		}
		yes, e := ground.Allows(g, badPoint)
		equal(t, "Allows, "+c.what, []any{yes, e}, []any{false, c.want})
		yes, e = ground.Known(g, "none")
		equal(t, "Known, "+c.what, []any{yes, e}, []any{false, c.want})
		n, e := ground.Layer(g, badPoint, 99, "x")
		equal(t, "Layer, "+c.what, []any{n, e}, []any{0, c.want})
		s, e := ground.Print(g)
		equal(t, "Print, "+c.what, []any{s, e}, []any{"", c.want})
	}
}

// TestAllows: P2.3.
func TestAllows(t *testing.T) {
	for _, c := range []struct {
		model []api.Value
		want  bool
	}{
		{nil, false},
		{point("b-1-0", "3", "b-2-0", "3", "t-cohesion-1", "10"), true},
		{point("b-1-0", "4", "b-1-1", "20", "b-2-0", "20", "b-2-1", "20", "t-cohesion-0", "50", "t-cohesion-1", "30"), true},
		{point("b-1-0", "3", "b-2-0", "3", "t-cohesion-1", "10", "zz", "-9"), true},
		{point("a", "7", "b-1-0", "3", "b-2-0", "3", "b-9-9", "1/2", "t-cohesion-1", "10"), true},
		{point("b-1-0", "3", "b-2-0", "299/100", "t-cohesion-1", "10"), false},
		{point("b-1-0", "299/100", "b-2-0", "3", "t-cohesion-1", "10"), false},
		{point("b-1-0", "401/100", "b-2-0", "5", "t-cohesion-1", "10"), false},
		{point("b-1-0", "3", "b-2-0", "3", "t-cohesion-1", "9"), false},
		{point("b-1-0", "3", "b-2-0", "3", "t-cohesion-1", "31"), false},
		{point("b-1-0", "3", "b-2-0", "3", "t-cohesion-1", "10", "t-cohesion-2", "51"), false},
		{point("b-1-0", "3", "b-1-1", "-1", "b-2-0", "3", "t-cohesion-1", "10"), false},
		{point("b-1-0", "3", "b-2-0", "3", "b-2-1", "21", "t-cohesion-1", "10"), false},
	} {
		yes, e := ground.Allows(example(), c.model)
		equal(t, "error", e, api.OK)
		equal(t, fmt.Sprint(c.model), yes, c.want)
	}
	for _, c := range badPoints {
		yes, e := ground.Allows(example(), c.point)
		equal(t, fmt.Sprint(c.point), []any{yes, e}, []any{false, c.want})
	}
	least := api.Ground{Stations: []int{0}, Depth: "0", Layers: []string{"a"}}
	yes, e := ground.Allows(least, nil)
	equal(t, "without unknowns", []any{yes, e}, []any{true, api.OK})
	yes, e = ground.Allows(with(least, rowOf("-1")), nil)
	equal(t, "nothing is allowed", []any{yes, e}, []any{false, api.OK})
}

// TestAllowsByWords: P2.3, for random grounds and models, by what statements mean.
func TestAllowsByWords(t *testing.T) {
	r := rand.New(rand.NewSource(3))
	yeses, noes := 0, 0
	for range 600 {
		g, model := randomGround(r, 5, r.Intn(2) == 0)
		models := [][]api.Value{model, randomModel(r, g), nil}
		if len(model) > 0 {
			moved := append([]api.Value(nil), model...)
			k := r.Intn(len(moved))
			moved[k].Value = frac(new(big.Rat).Add(rat(moved[k].Value), big.NewRat(int64(r.Intn(5)-2), 6)))
			models = append(models, moved, append(moved[:k:k], moved[k+1:]...))
		}
		for _, m := range models {
			yes, e := ground.Allows(g, m)
			equal(t, "error", e, api.OK)
			equal(t, said(g)+fmt.Sprint(m), yes, allowed(g, m))
			if yes {
				yeses++
			} else {
				noes++
			}
		}
	}
	if yeses < 200 || noes < 200 {
		t.Error("too few:", yeses, noes)
	}
}

// TestMost: P2.3.
func TestMost(t *testing.T) {
	seen := with(example(), topSaying("a", 5, 1, "8", "8"))
	for _, c := range []struct {
		g    api.Ground
		goal []api.Term
		want api.Frac
	}{
		{example(), terms("b-1-0", "1"), "4"},
		{example(), terms("b-1-0", "-1"), "-3"},
		{example(), terms("b-1-1", "1"), "20"},
		{seen, terms("b-1-1", "1"), "13"},
		{seen, terms("b-1-1", "-1"), "-12"},
		{example(), terms("b-1-0", "3/5", "b-1-1", "2/5"), "52/5"},
		{example(), terms("b-1-0", "1", "t-cohesion-1", "1/3"), "14"},
		{example(), terms("b-1-0", "1", "b-2-0", "-1"), "0"},
		{example(), nil, "0"},
		{with(example(), rowSaying(t, "r", "1 b-1-1 1/2 t-cohesion-0 <= 7")), terms("b-1-1", "2", "t-cohesion-0", "1"), "14"},
		{api.Ground{Stations: []int{0}, Depth: "0", Layers: []string{"a"}}, nil, "0"},
	} {
		a, e := ground.Most(c.g, c.goal)
		equal(t, fmt.Sprint(c.goal), []any{a.Kind, a.Value, e}, []any{api.AnBest, c.want, api.OK})
		equal(t, fmt.Sprint(c.goal), exact.Verify(mustRows(t, c.g), c.goal, a), api.OK)
	}
	none := with(example(), topSaying("x", 0, 2, "1", "2"))
	a, e := ground.Most(none, terms("b-1-0", "1"))
	equal(t, "no model", []any{a.Kind, e, exact.Verify(mustRows(t, none), terms("b-1-0", "1"), a)}, []any{api.AnEmpty, api.OK, api.OK})
	for _, c := range badTerms {
		a, e := ground.Most(example(), c.terms)
		equal(t, fmt.Sprint(c.terms), []any{said(api.Ground{}), e}, []any{said(api.Ground{}), c.want})
		equal(t, "with an error", a, api.Answer{})
	}
	for _, goal := range [][]api.Term{terms("b-0-0", "1"), terms("b-1-0", "1", "b-1-2", "1"), terms("t-cohesion-3", "1"), terms("t-weight-0", "1"), terms("cohesion", "1"), terms(manyTerms(81)...)} {
		a, e := ground.Most(example(), goal)
		equal(t, fmt.Sprint(goal), e, api.ErrNone)
		equal(t, "with an error", a, api.Answer{})
	}
}

// TestMostHolds: P2.3, for random grounds answers hold, and no model that agrees exceeds them.
func TestMostHolds(t *testing.T) {
	r := rand.New(rand.NewSource(4))
	empties := 0
	for range 300 {
		g, model := randomGround(r, 6, r.Intn(2) == 0)
		var goal []api.Term
		for _, v := range model {
			if c := r.Intn(7) - 3; c != 0 {
				goal = append(goal, api.Term{Name: v.Name, Coef: api.Frac(fmt.Sprint(c))})
			}
		}
		a, e := ground.Most(g, goal)
		equal(t, "error", e, api.OK)
		equal(t, "holds", exact.Verify(mustRows(t, g), goal, a), api.OK)
		if a.Kind == api.AnEmpty {
			empties++
		}
		if allowed(g, model) {
			sum, _ := exact.Sum(goal, model)
			c, _ := exact.Cmp(sum, a.Value)
			equal(t, "a model that agrees", []any{a.Kind, c <= 0}, []any{api.AnBest, true})
		}
	}
	if empties < 10 {
		t.Error("too few:", empties)
	}
}
