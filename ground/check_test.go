package ground_test

import (
	"fmt"
	"math/rand"
	"slices"
	"strings"
	"testing"

	"underpin/api"
	"underpin/ground"
)

// wrongs are changes of the example, part by part in the order of Check, with the error that each one makes.
var wrongs = []struct {
	part, what string
	change     func(g *api.Ground)
	want       api.Errno
}{
	{"stations", "7 stations", func(g *api.Ground) { g.Stations = []int{0, 1, 2, 3, 4, 10, 10} }, api.ErrLimit},
	{"stations", "none", func(g *api.Ground) { g.Stations = nil }, api.ErrArg},
	{"stations", "empty", func(g *api.Ground) { g.Stations = []int{} }, api.ErrArg},
	{"stations", "too far left", func(g *api.Ground) { g.Stations = []int{-100001, 10} }, api.ErrArg},
	{"stations", "too far right", func(g *api.Ground) { g.Stations = []int{0, 100001} }, api.ErrArg},
	{"stations", "equal", func(g *api.Ground) { g.Stations = []int{0, 0, 10} }, api.ErrArg},
	{"stations", "falling", func(g *api.Ground) { g.Stations = []int{0, 10, 9} }, api.ErrArg},
	{"depth", "empty", func(g *api.Ground) { g.Depth = "" }, api.ErrForm},
	{"depth", "no number", func(g *api.Ground) { g.Depth = "2/4" }, api.ErrForm},
	{"depth", "too long", func(g *api.Ground) { g.Depth = "1000000000000" }, api.ErrLimit},
	{"depth", "too long below", func(g *api.Ground) { g.Depth = "1/1000000000000" }, api.ErrLimit},
	{"depth", "too long below 0", func(g *api.Ground) { g.Depth = "-1000000000000" }, api.ErrLimit},
	{"depth", "below 0", func(g *api.Ground) { g.Depth = "-1/999999999999" }, api.ErrArg},
	{"layers", "7 layers", func(g *api.Ground) { g.Layers = []string{"a", "b", "c", "d", "e", "f", "A"} }, api.ErrLimit},
	{"layers", "none", func(g *api.Ground) { g.Layers = nil }, api.ErrArg},
	{"layers", "no name", func(g *api.Ground) { g.Layers = []string{"fill", "Clay", "fill"} }, api.ErrName},
	{"layers", "empty name", func(g *api.Ground) { g.Layers = []string{""} }, api.ErrName},
	{"layers", "long name", func(g *api.Ground) { g.Layers = []string{"fill", "abcdefghijklmnopq"} }, api.ErrName},
	{"layers", "twice", func(g *api.Ground) { g.Layers = []string{"fill", "clay", "fill", "Rock"} }, api.ErrTwice},
	{"traits", "6 traits", func(g *api.Ground) { g.Traits = make([]api.Trait, 6) }, api.ErrLimit},
	{"traits", "no name", func(g *api.Ground) { g.Traits = append(g.Traits, api.Trait{Name: "-a"}) }, api.ErrName},
	{"traits", "no name at all", func(g *api.Ground) { g.Traits[0] = api.Trait{} }, api.ErrName},
	{"traits", "11 bytes", func(g *api.Ground) { g.Traits[0].Name, g.Traits[0].Low = "abcdefghijk", "x" }, api.ErrName},
	{"traits", "twice", func(g *api.Ground) { g.Traits = append(g.Traits, api.Trait{Name: "cohesion"}) }, api.ErrTwice},
	{"traits", "Low no number", func(g *api.Ground) { g.Traits[0].Low, g.Traits[0].High = "x", "1000000000000" }, api.ErrForm},
	{"traits", "Low too long", func(g *api.Ground) { g.Traits[0].Low, g.Traits[0].High = "1000000000000", "x" }, api.ErrLimit},
	{"traits", "High no number", func(g *api.Ground) { g.Traits[0].Low, g.Traits[0].High = "1", "" }, api.ErrForm},
	{"traits", "High too long", func(g *api.Ground) { g.Traits[0].High = "-1/1000000000000" }, api.ErrLimit},
	{"traits", "Low above High", func(g *api.Ground) { g.Traits[0].Low = "101/2" }, api.ErrArg},
	{"sayings", "41 statements", func(g *api.Ground) { g.Sayings = make([]api.Saying, 41) }, api.ErrLimit},
	{"sayings", "no name", func(g *api.Ground) { g.Sayings[1].Name, g.Sayings[1].Kind = "B", 0 }, api.ErrName},
	{"sayings", "no name at all", func(g *api.Ground) { g.Sayings[1] = api.Saying{} }, api.ErrName},
	{"sayings", "twice", func(g *api.Ground) { g.Sayings[1].Name, g.Sayings[1].Kind = "bh", 0 }, api.ErrTwice},
	{"sayings", "kind 0", func(g *api.Ground) { g.Sayings[1].Kind = api.SaNone }, api.ErrArg},
	{"sayings", "kind 4", func(g *api.Ground) { g.Sayings[0].Kind = 4 }, api.ErrArg},
	{"sayings", "kind 255", func(g *api.Ground) { g.Sayings[0].Kind = 255 }, api.ErrArg},
	{"sayings", "the layer 0 has no top", func(g *api.Ground) { g.Sayings[0].Layer, g.Sayings[0].X = 0, -1 }, api.ErrNone},
	{"sayings", "no layer 3", func(g *api.Ground) { g.Sayings[0].Layer = 3 }, api.ErrNone},
	{"sayings", "no layer -1", func(g *api.Ground) { g.Sayings[0].Layer = -1 }, api.ErrNone},
	{"sayings", "left of the stations", func(g *api.Ground) { g.Sayings[0].X, g.Sayings[0].Low = -1, "x" }, api.ErrScope},
	{"sayings", "right of the stations", func(g *api.Ground) { g.Sayings[0].X = 11 }, api.ErrScope},
	{"sayings", "far right of the stations", func(g *api.Ground) { g.Sayings[0].X = 1 << 62 }, api.ErrScope},
	{"sayings", "Low no number", func(g *api.Ground) { g.Sayings[0].Low, g.Sayings[0].High = "", "1000000000000" }, api.ErrForm},
	{"sayings", "Low too long", func(g *api.Ground) { g.Sayings[0].Low, g.Sayings[0].High = "1000000000000", "" }, api.ErrLimit},
	{"sayings", "High no number", func(g *api.Ground) { g.Sayings[0].High = "" }, api.ErrForm},
	{"sayings", "High too long", func(g *api.Ground) { g.Sayings[0].High = "1000000000000" }, api.ErrLimit},
	{"sayings", "Low above High", func(g *api.Ground) { g.Sayings[0].High = "29999/10000" }, api.ErrArg},
	{"sayings", "a top with a trait", func(g *api.Ground) { g.Sayings[0].Trait = "cohesion" }, api.ErrArg},
	{"sayings", "a top with a trait, and no layer", func(g *api.Ground) { g.Sayings[0].Trait, g.Sayings[0].Layer = "cohesion", 9 }, api.ErrNone},
	{"sayings", "a top with terms", func(g *api.Ground) { g.Sayings[0].Row.Terms = make([]api.Term, 1) }, api.ErrArg},
	{"sayings", "a top with a bound", func(g *api.Ground) { g.Sayings[0].Row.Bound = "0" }, api.ErrArg},
	{"sayings", "a value of no layer", func(g *api.Ground) { g.Sayings[1].Layer, g.Sayings[1].Low = 3, "x" }, api.ErrNone},
	{"sayings", "a value of no layer -1", func(g *api.Ground) { g.Sayings[1].Layer = -1 }, api.ErrNone},
	{"sayings", "a value of no trait", func(g *api.Ground) { g.Sayings[1].Trait, g.Sayings[1].High = "weight", "x" }, api.ErrNone},
	{"sayings", "a value of no trait at all", func(g *api.Ground) { g.Sayings[1].Trait = "" }, api.ErrNone},
	{"sayings", "a value, Low no number", func(g *api.Ground) { g.Sayings[1].Low, g.Sayings[1].High = "1.0", "1000000000000" }, api.ErrForm},
	{"sayings", "a value, High too long", func(g *api.Ground) { g.Sayings[1].High, g.Sayings[1].X = "1000000000000", 1 }, api.ErrLimit},
	{"sayings", "a value, Low above High", func(g *api.Ground) { g.Sayings[1].Low = "31" }, api.ErrArg},
	{"sayings", "a value with a place", func(g *api.Ground) { g.Sayings[1].X = 1 }, api.ErrArg},
	{"sayings", "a value with a bound", func(g *api.Ground) { g.Sayings[1].Row.Bound = "0" }, api.ErrArg},
	{"sayings", "a row, its terms", func(g *api.Ground) { *g = with(*g, rowOf("x", "B", "1")) }, api.ErrName},
	{"sayings", "a row, no coef", func(g *api.Ground) { *g = with(*g, rowOf("x", "zz", "0")) }, api.ErrArg},
	{"sayings", "a row, its bound", func(g *api.Ground) { *g = with(*g, rowOf("x", "zz", "1")) }, api.ErrForm},
	{"sayings", "a row, its bound too long", func(g *api.Ground) { *g = with(*g, rowOf("1000000000000", "zz", "1")) }, api.ErrLimit},
	{"sayings", "a row, no such unknown", func(g *api.Ground) { *g = with(*g, rowOf("1", "b-1-0", "1", "b-3-0", "1")) }, api.ErrNone},
	{"sayings", "a row, the layer 0", func(g *api.Ground) { *g = with(*g, rowOf("1", "b-0-0", "1")) }, api.ErrNone},
	{"sayings", "a row, no such station", func(g *api.Ground) { *g = with(*g, rowOf("1", "b-1-2", "1")) }, api.ErrNone},
	{"sayings", "a row, no such trait", func(g *api.Ground) { *g = with(*g, rowOf("1", "t-weight-0", "1")) }, api.ErrNone},
	{"sayings", "a row, the trait of no layer", func(g *api.Ground) { *g = with(*g, rowOf("1", "t-cohesion-3", "1")) }, api.ErrNone},
	{"sayings", "a row, 81 unknowns", func(g *api.Ground) { *g = with(*g, rowOf("1", manyTerms(81)...)) }, api.ErrNone},
	{"sayings", "a row, 81 unknowns, no bound", func(g *api.Ground) { *g = with(*g, rowOf("", manyTerms(81)...)) }, api.ErrForm},
	{"sayings", "a row with a place", func(g *api.Ground) { *g = with(*g, rowOf("1")); g.Sayings[2].X = -1 }, api.ErrArg},
	{"sayings", "a row with a layer", func(g *api.Ground) { *g = with(*g, rowOf("1")); g.Sayings[2].Layer = 1 }, api.ErrArg},
	{"sayings", "a row with a trait", func(g *api.Ground) { *g = with(*g, rowOf("1")); g.Sayings[2].Trait = "cohesion" }, api.ErrArg},
	{"sayings", "a row with Low", func(g *api.Ground) { *g = with(*g, rowOf("1")); g.Sayings[2].Low = "0" }, api.ErrArg},
	{"sayings", "a row with High", func(g *api.Ground) { *g = with(*g, rowOf("1")); g.Sayings[2].High = "0" }, api.ErrArg},
}

// rowOf is a statement of a row, with any terms: names and coefs by turns.
func rowOf(bound api.Frac, words ...string) api.Saying {
	return api.Saying{Name: "seen", Kind: api.SaRow, Row: api.Row{Terms: terms(words...), Bound: bound}}
}

// manyTerms are words of n terms.
func manyTerms(n int) []string {
	var words []string
	for i := range n {
		words = append(words, fmt.Sprintf("u%03d", i), "1")
	}
	return words
}

// TestCheck: P2.1, the errors of a ground.
func TestCheck(t *testing.T) {
	equal(t, "the example", ground.Check(example()), api.OK)
	for _, c := range wrongs {
		g := example()
		c.change(&g)
		equal(t, c.part+": "+c.what, ground.Check(g), c.want)
	}
}

// TestCheckOrder: P2.1 and R1, of the errors in two parts the first one counts.
func TestCheckOrder(t *testing.T) {
	for i, first := range wrongs {
		for _, then := range wrongs[i+1:] {
			if first.part == then.part {
				continue
			}
			g := example()
			then.change(&g)
			first.change(&g)
			equal(t, first.part+": "+first.what+", "+then.part+": "+then.what, ground.Check(g), first.want)
		}
	}
}

// TestCheckFirstElement: P2.1 and R1, of two elements of a list the first one counts, whatever the errors are.
func TestCheckFirstElement(t *testing.T) {
	g := example()
	g.Traits = []api.Trait{{Name: "a", Low: "2", High: "1"}, {Name: "A"}}
	equal(t, "traits", ground.Check(g), api.ErrArg)
	g = with(example(), topSaying("x", 0, 1, "2", "1"), api.Saying{})
	equal(t, "statements", ground.Check(g), api.ErrArg)
	g.Sayings[2].X = 99
	equal(t, "statements", ground.Check(g), api.ErrScope)
	g = example()
	g.Layers = []string{"fill", "fill", "B"}
	equal(t, "layers", ground.Check(g), api.ErrTwice)
	g.Layers = []string{"fill", "B", "fill"}
	equal(t, "layers", ground.Check(g), api.ErrName)
}

// largest is a ground with as much of everything as may be.
func largest() api.Ground {
	g := api.Ground{Stations: []int{-100000, -1, 0, 1, 99999, 100000}, Depth: "999999999999", Layers: []string{"abcdefghijklmnop", "a", "a-", "a0", "z", "y"}}
	for i := range 5 {
		g.Traits = append(g.Traits, api.Trait{Name: "abcdefghi" + fmt.Sprint(i), Low: "-999999999999/999999999998", High: "-999999999999/999999999998"})
	}
	for i := range 40 {
		g.Sayings = append(g.Sayings, topSaying(fmt.Sprintf("abcdefghijklmn%02d", i), 100000, 5, "-1/999999999999", "999999999999"))
	}
	return g
}

// TestCheckLimits: P2.1 and R7, at most n includes n.
func TestCheckLimits(t *testing.T) {
	equal(t, "all at once", ground.Check(largest()), api.OK)
	u, e := ground.Unknowns(largest())
	equal(t, "unknowns", []any{len(u), e}, []any{60, api.OK})
	least := api.Ground{Stations: []int{0}, Depth: "0", Layers: []string{"a"}}
	equal(t, "the least one", ground.Check(least), api.OK)
	equal(t, "the least one, empty lists", ground.Check(api.Ground{Stations: []int{0}, Depth: "0", Layers: []string{"a"}, Traits: []api.Trait{}, Sayings: []api.Saying{}}), api.OK)
	equal(t, "a top where there is none", ground.Check(with(least, topSaying("x", 0, 1, "0", "0"))), api.ErrNone)
	equal(t, "a row without terms", ground.Check(with(least, rowOf("-1"))), api.OK)
	equal(t, "nothing", ground.Check(api.Ground{}), api.ErrArg)
	g := example()
	g.Sayings[0].Row.Terms = []api.Term{}
	equal(t, "an empty list is none", ground.Check(g), api.OK)
	g = example()
	g.Sayings[0].X, g.Sayings[0].Low, g.Sayings[1].High = 10, "4", "10"
	equal(t, "Low is High", ground.Check(g), api.OK)
	g.Sayings[0].High = "999999999999"
	equal(t, "High below Depth is not asked for", ground.Check(g), api.OK)
	equal(t, "long lists", ground.Check(api.Ground{Stations: make([]int, 1000000)}), api.ErrLimit)
}

// TestUnknowns: P2.1.
func TestUnknowns(t *testing.T) {
	l, e := ground.Unknowns(example())
	equal(t, "error", e, api.OK)
	equal(t, "the example", l, strings.Fields("b-1-0 b-1-1 b-2-0 b-2-1 t-cohesion-0 t-cohesion-1 t-cohesion-2"))
	g := api.Ground{Stations: []int{5}, Depth: "1", Layers: []string{"a", "b"}}
	for _, name := range []string{"b", "a0", "a", "a-0"} {
		g.Traits = append(g.Traits, api.Trait{Name: name, Low: "0", High: "0"})
	}
	l, e = ground.Unknowns(g)
	equal(t, "error", e, api.OK)
	equal(t, "by bytes", l, strings.Fields("b-1-0 t-a-0 t-a-0-0 t-a-0-1 t-a-1 t-a0-0 t-a0-1 t-b-0 t-b-1"))
	l, e = ground.Unknowns(api.Ground{Stations: []int{5}, Depth: "1", Layers: []string{"a"}})
	equal(t, "none", []any{len(l), e}, []any{0, api.OK})
	r := rand.New(rand.NewSource(1))
	for range 100 {
		g, model := randomGround(r, 5, true)
		var want []string
		for _, v := range model {
			want = append(want, v.Name)
		}
		l, e := ground.Unknowns(g)
		equal(t, "error", e, api.OK)
		equal(t, "all of a model", l, want)
		equal(t, "increasing", slices.IsSorted(l), true)
	}
}
