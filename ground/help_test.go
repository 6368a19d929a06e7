package ground_test

import (
	"fmt"
	"math/big"
	"math/rand"
	"reflect"
	"slices"
	"strings"
	"testing"

	"underpin/api"
	"underpin/exact"
	"underpin/ground"
)

// example is the ground G of the chapter.
func example() api.Ground {
	return api.Ground{
		Stations: []int{0, 10},
		Depth:    "20",
		Layers:   []string{"fill", "clay", "rock"},
		Traits:   []api.Trait{{Name: "cohesion", Low: "0", High: "50"}},
		Sayings: []api.Saying{
			topSaying("bh", 0, 1, "3", "4"),
			traitSaying("cs", "cohesion", 1, "10", "30"),
		},
	}
}

func topSaying(name string, x, layer int, low, high api.Frac) api.Saying {
	return api.Saying{Name: name, Kind: api.SaTop, X: x, Layer: layer, Low: low, High: high}
}

func traitSaying(name, trait string, layer int, low, high api.Frac) api.Saying {
	return api.Saying{Name: name, Kind: api.SaTrait, Trait: trait, Layer: layer, Low: low, High: high}
}

// rowSaying is a statement of the row that a line says.
func rowSaying(t testing.TB, name, line string) api.Saying {
	t.Helper()
	return api.Saying{Name: name, Kind: api.SaRow, Row: row(t, line)}
}

// rows returns the rows that a text says.
func rows(t testing.TB, text string) []api.Row {
	t.Helper()
	l, line, e := exact.Parse(text)
	if e != api.OK {
		t.Fatal(text, line, e)
	}
	return l
}

// row returns the row that a line says.
func row(t testing.TB, text string) api.Row {
	t.Helper()
	return rows(t, text)[0]
}

// with is a ground with statements more.
func with(g api.Ground, more ...api.Saying) api.Ground {
	g.Sayings = append(slices.Clone(g.Sayings), more...)
	return g
}

// only is a ground with some of its statements.
func only(g api.Ground, keep func(i int) bool) api.Ground {
	all := g.Sayings
	g.Sayings = nil
	for i, s := range all {
		if keep(i) {
			g.Sayings = append(g.Sayings, s)
		}
	}
	return g
}

// point returns a point: names and values by turns.
func point(words ...string) []api.Value {
	var p []api.Value
	for i := 0; i < len(words); i += 2 {
		p = append(p, api.Value{Name: words[i], Value: api.Frac(words[i+1])})
	}
	return p
}

// terms returns terms: names and coefs by turns.
func terms(words ...string) []api.Term {
	var l []api.Term
	for i := 0; i < len(words); i += 2 {
		l = append(l, api.Term{Name: words[i], Coef: api.Frac(words[i+1])})
	}
	return l
}

// equal fails unless both are equal (nil and empty lists are).
func equal(t testing.TB, what string, got, want any) {
	t.Helper()
	g, w := reflect.ValueOf(got), reflect.ValueOf(want)
	if g.Kind() == reflect.Slice && g.Len() == 0 && w.Len() == 0 {
		return
	}
	if !reflect.DeepEqual(got, want) {
		t.Fatalf("%s: got %v, want %v", what, got, want)
	}
}

// said writes all of a ground, nil and empty lists alike.
func said(g api.Ground) string {
	return fmt.Sprintf("%q", fmt.Sprint(g))
}

// badTerms are terms with an error each, and the error.
var badTerms = []struct {
	terms []api.Term
	want  api.Errno
}{
	{terms("B", "1"), api.ErrName},
	{terms("", "x"), api.ErrName},
	{terms("b-1-0", ""), api.ErrForm},
	{terms("b-1-0", "2/4"), api.ErrForm},
	{terms("b-1-0", "0"), api.ErrArg},
	{terms("b-1-0", "1000000000000"), api.ErrLimit},
	{terms("b-1-0", "1", "b-1-0", "1"), api.ErrTwice},
	{terms("b-1-1", "1", "b-1-0", "1"), api.ErrArg},
	{terms("zz", "1", "b-1-0", "x"), api.ErrForm},
}

// badPoints are points with an error each, and the error.
var badPoints = []struct {
	point []api.Value
	want  api.Errno
}{
	{point("B", "x"), api.ErrName},
	{point("b-1-0", "1.5"), api.ErrForm},
	{point("b-1-0", "1", "b-1-0", "1"), api.ErrTwice},
	{point("b-1-1", "1", "b-1-0", "1"), api.ErrArg},
	{point("zz", "1", "a", "2/4"), api.ErrForm},
}

// rat returns a number as math/big has it.
func rat(a api.Frac) *big.Rat {
	x, ok := new(big.Rat).SetString(string(a))
	if !ok {
		panic("no number: " + string(a))
	}
	return x
}

// frac returns a number of math/big as text.
func frac(x *big.Rat) api.Frac {
	return api.Frac(x.RatString())
}

// valueOf is the value of an unknown in a model.
func valueOf(model []api.Value, name string) *big.Rat {
	for _, v := range model {
		if v.Name == name {
			return rat(v.Value)
		}
	}
	return new(big.Rat)
}

// topOf is the top of a layer at a place in a model, by the straight lines between the stations.
func topOf(g api.Ground, model []api.Value, x, layer int) *big.Rat {
	if layer == 0 {
		return new(big.Rat)
	}
	at := func(s int) *big.Rat { return valueOf(model, fmt.Sprintf("b-%d-%d", layer, s)) }
	for s, place := range g.Stations {
		if place == x {
			return at(s)
		}
		if place > x {
			left := g.Stations[s-1]
			rise := new(big.Rat).Sub(at(s), at(s-1))
			rise.Mul(rise, big.NewRat(int64(x-left), int64(place-left)))
			return rise.Add(rise, at(s-1))
		}
	}
	panic("outside of the stations")
}

// isIn tells whether a number lies between two others.
func isIn(x *big.Rat, low, high api.Frac) bool {
	return rat(low).Cmp(x) <= 0 && x.Cmp(rat(high)) <= 0
}

// allowed tells whether a model agrees with all that a ground says, by the words of the chapter.
func allowed(g api.Ground, model []api.Value) bool {
	for _, x := range g.Stations {
		for k := 1; k < len(g.Layers); k++ {
			if topOf(g, model, x, k).Cmp(topOf(g, model, x, k-1)) < 0 || topOf(g, model, x, k).Cmp(rat(g.Depth)) > 0 {
				return false
			}
		}
	}
	for k := range g.Layers {
		for _, trait := range g.Traits {
			if !isIn(valueOf(model, fmt.Sprintf("t-%s-%d", trait.Name, k)), trait.Low, trait.High) {
				return false
			}
		}
	}
	for _, s := range g.Sayings {
		if !agrees(g, model, s) {
			return false
		}
	}
	return true
}

// agrees tells whether a model agrees with a statement.
func agrees(g api.Ground, model []api.Value, s api.Saying) bool {
	switch s.Kind {
	case api.SaTop:
		return isIn(topOf(g, model, s.X, s.Layer), s.Low, s.High)
	case api.SaTrait:
		return isIn(valueOf(model, fmt.Sprintf("t-%s-%d", s.Trait, s.Layer)), s.Low, s.High)
	}
	sum := new(big.Rat)
	for _, term := range s.Row.Terms {
		sum.Add(sum, new(big.Rat).Mul(rat(term.Coef), valueOf(model, term.Name)))
	}
	return sum.Cmp(rat(s.Row.Bound)) <= 0
}

// randomModel makes a model in which layers rise and traits keep their ranges.
func randomModel(r *rand.Rand, g api.Ground) []api.Value {
	var p []api.Value
	for s := range g.Stations {
		var tops []*big.Rat
		for range g.Layers[1:] {
			tops = append(tops, new(big.Rat).Mul(rat(g.Depth), big.NewRat(int64(r.Intn(13)), 12)))
		}
		slices.SortFunc(tops, (*big.Rat).Cmp)
		for k, top := range tops {
			p = append(p, api.Value{Name: fmt.Sprintf("b-%d-%d", k+1, s), Value: frac(top)})
		}
	}
	for k := range g.Layers {
		for _, trait := range g.Traits {
			x := new(big.Rat).Sub(rat(trait.High), rat(trait.Low))
			x.Mul(x, big.NewRat(int64(r.Intn(5)), 4)).Add(x, rat(trait.Low))
			p = append(p, api.Value{Name: fmt.Sprintf("t-%s-%d", trait.Name, k), Value: frac(x)})
		}
	}
	slices.SortFunc(p, func(v, w api.Value) int { return strings.Compare(v.Name, w.Name) })
	return p
}

// randomGround makes a ground with up to n statements. Most of them agree with a model that it returns, too, unless wild.
func randomGround(r *rand.Rand, n int, wild bool) (api.Ground, []api.Value) {
	g := api.Ground{Depth: api.Frac(fmt.Sprint(r.Intn(40)))}
	for x := r.Intn(20) - 10; len(g.Stations) < 1+r.Intn(4); x += 1 + r.Intn(12) {
		g.Stations = append(g.Stations, x)
	}
	g.Layers = []string{"fill", "clay", "rock", "lime-2"}[:1+r.Intn(4)]
	for _, name := range []string{"z", "a-0", "a"}[:r.Intn(4)] {
		low := r.Intn(30) - 20
		g.Traits = append(g.Traits, api.Trait{Name: name, Low: api.Frac(fmt.Sprint(low)), High: frac(big.NewRat(int64(2*low+r.Intn(20)), 2))})
	}
	model := randomModel(r, g)
	for i := range r.Intn(n + 1) {
		truth := model
		if wild && r.Intn(3) == 0 {
			truth = randomModel(r, g)
		}
		if s, ok := randomSaying(r, g, truth); ok {
			s.Name = fmt.Sprintf("s%d", (i*7)%31)
			g.Sayings = append(g.Sayings, s)
		}
	}
	return g, model
}

// randomSaying makes a statement that agrees with a model; false if the ground has nothing of the kind.
func randomSaying(r *rand.Rand, g api.Ground, model []api.Value) (api.Saying, bool) {
	around := func(x *big.Rat) (api.Frac, api.Frac) {
		return frac(new(big.Rat).Sub(x, big.NewRat(int64(r.Intn(5)), 2))), frac(new(big.Rat).Add(x, big.NewRat(int64(r.Intn(5)), 3)))
	}
	s := api.Saying{Kind: api.SayingKind(1 + r.Intn(3))}
	switch {
	case s.Kind == api.SaTop && len(g.Layers) > 1:
		first, last := g.Stations[0], g.Stations[len(g.Stations)-1]
		s.X, s.Layer = first+r.Intn(last-first+1), 1+r.Intn(len(g.Layers)-1)
		s.Low, s.High = around(topOf(g, model, s.X, s.Layer))
	case s.Kind == api.SaTrait && len(g.Traits) > 0:
		s.Trait, s.Layer = g.Traits[r.Intn(len(g.Traits))].Name, r.Intn(len(g.Layers))
		s.Low, s.High = around(valueOf(model, fmt.Sprintf("t-%s-%d", s.Trait, s.Layer)))
	case s.Kind == api.SaRow:
		sum := new(big.Rat)
		for _, v := range model {
			if c := int64(r.Intn(9) - 4); c != 0 && r.Intn(2) == 0 {
				s.Row.Terms = append(s.Row.Terms, api.Term{Name: v.Name, Coef: frac(big.NewRat(c, 1+int64(r.Intn(3))))})
				sum.Add(sum, new(big.Rat).Mul(rat(s.Row.Terms[len(s.Row.Terms)-1].Coef), rat(v.Value)))
			}
		}
		s.Row.Bound = frac(sum.Add(sum, big.NewRat(int64(r.Intn(4)), 1)))
	default:
		return api.Saying{}, false
	}
	return s, true
}

// mustRows returns the rows of a ground.
func mustRows(t testing.TB, g api.Ground) []api.Row {
	t.Helper()
	l, e := ground.Rows(g)
	if e != api.OK {
		t.Fatal(e, said(g))
	}
	return l
}

// isEmpty tells whether no model is allowed, by exact.
func isEmpty(t testing.TB, g api.Ground) bool {
	t.Helper()
	yes, _, _, e := exact.Empty(mustRows(t, g))
	if e != api.OK {
		t.Fatal(e, said(g))
	}
	return yes
}
