package exact_test

import (
	"fmt"
	"math/big"
	"math/rand"
	"reflect"
	"testing"

	"underpin/api"
	"underpin/exact"
)

// rat returns a number as math/big has it, which these tests hold the package's own arithmetic against.
func rat(t testing.TB, a api.Frac) *big.Rat {
	t.Helper()
	x, ok := new(big.Rat).SetString(string(a))
	if !ok {
		t.Fatalf("%q is no number", a)
	}
	return x
}

// frac returns a number of math/big as text.
func frac(x *big.Rat) api.Frac {
	return api.Frac(x.RatString())
}

// rows returns the rows that a text says.
func rows(t testing.TB, text string) []api.Row {
	t.Helper()
	l, line, e := exact.Parse(text)
	if e != api.OK {
		t.Fatal(text, line, e)
	}
	return l
}

// row returns the row that a line says.
func row(t testing.TB, text string) api.Row {
	t.Helper()
	return rows(t, text)[0]
}

// point returns a point: names and values by turns.
func point(words ...string) []api.Value {
	var p []api.Value
	for i := 0; i < len(words); i += 2 {
		p = append(p, api.Value{Name: words[i], Value: api.Frac(words[i+1])})
	}
	return p
}

// terms returns terms: names and coefs by turns.
func terms(words ...string) []api.Term {
	var l []api.Term
	for i := 0; i < len(words); i += 2 {
		l = append(l, api.Term{Name: words[i], Coef: api.Frac(words[i+1])})
	}
	return l
}

func fracs(words ...string) []api.Frac {
	var l []api.Frac
	for _, w := range words {
		l = append(l, api.Frac(w))
	}
	return l
}

// equal fails unless both are equal (nil and empty lists are).
func equal(t testing.TB, what string, got, want any) {
	t.Helper()
	g, w := reflect.ValueOf(got), reflect.ValueOf(want)
	if g.Kind() == reflect.Slice && g.Len() == 0 && w.Len() == 0 {
		return
	}
	if !reflect.DeepEqual(got, want) {
		t.Fatalf("%s: got %v, want %v", what, got, want)
	}
}

// sumAt is the sum of terms at a point, by math/big.
func sumAt(t testing.TB, terms []api.Term, p []api.Value) *big.Rat {
	t.Helper()
	sum := new(big.Rat)
	for _, term := range terms {
		for _, v := range p {
			if v.Name == term.Name {
				sum.Add(sum, new(big.Rat).Mul(rat(t, term.Coef), rat(t, v.Value)))
			}
		}
	}
	return sum
}

// keeps tells whether a point keeps a row, by math/big.
func keeps(t testing.TB, r api.Row, p []api.Value) bool {
	t.Helper()
	return sumAt(t, r.Terms, p).Cmp(rat(t, r.Bound)) <= 0
}

func keepsAll(t testing.TB, l []api.Row, p []api.Value) bool {
	t.Helper()
	for _, r := range l {
		if !keeps(t, r, p) {
			return false
		}
	}
	return true
}

// weigh is the sum of rows by weights, by math/big; it fails if they are no weights.
func weigh(t testing.TB, l []api.Row, weights []api.Frac) (map[string]*big.Rat, *big.Rat) {
	t.Helper()
	if len(weights) != len(l) {
		t.Fatalf("%d weights for %d rows", len(weights), len(l))
	}
	coefs, bound := map[string]*big.Rat{}, new(big.Rat)
	for i, w := range weights {
		x := rat(t, w)
		if x.Sign() < 0 || !exact.Valid(w) {
			t.Fatalf("%q is no weight", w)
		}
		for _, term := range l[i].Terms {
			if coefs[term.Name] == nil {
				coefs[term.Name] = new(big.Rat)
			}
			coefs[term.Name].Add(coefs[term.Name], new(big.Rat).Mul(x, rat(t, term.Coef)))
		}
		bound.Add(bound, new(big.Rat).Mul(x, rat(t, l[i].Bound)))
	}
	for name, x := range coefs {
		if x.Sign() == 0 {
			delete(coefs, name)
		}
	}
	return coefs, bound
}

// provesEmpty tells whether weights prove that rows are empty, by math/big.
func provesEmpty(t testing.TB, l []api.Row, weights []api.Frac) bool {
	t.Helper()
	coefs, bound := weigh(t, l, weights)
	return len(coefs) == 0 && bound.Sign() < 0
}

// provesRow tells whether weights prove that rows imply a row, not by their being empty, by math/big.
func provesRow(t testing.TB, l []api.Row, r api.Row, weights []api.Frac) bool {
	t.Helper()
	coefs, bound := weigh(t, l, weights)
	if len(coefs) != len(r.Terms) || bound.Cmp(rat(t, r.Bound)) > 0 {
		return false
	}
	for _, term := range r.Terms {
		if coefs[term.Name] == nil || coefs[term.Name].Cmp(rat(t, term.Coef)) != 0 {
			return false
		}
	}
	return true
}

// checkPoint fails unless a point is one: increasing names, valid numbers.
func checkPoint(t testing.TB, p []api.Value) {
	t.Helper()
	for i, v := range p {
		if !exact.Valid(v.Value) || i > 0 && p[i-1].Name >= v.Name {
			t.Fatal("no point:", p)
		}
	}
}

// holds fails unless an answer holds for rows and a goal, by math/big, and has nothing that its kind does not name.
func holds(t testing.TB, l []api.Row, goal []api.Term, a api.Answer) {
	t.Helper()
	checkPoint(t, a.Point)
	checkPoint(t, a.Ray)
	good := false
	switch a.Kind {
	case api.AnBest:
		good = keepsAll(t, l, a.Point) && sumAt(t, goal, a.Point).Cmp(rat(t, a.Value)) == 0 && provesRow(t, l, api.Row{Terms: goal, Bound: a.Value}, a.Weights) && a.Ray == nil
	case api.AnEmpty:
		good = provesEmpty(t, l, a.Weights) && a.Value == "" && a.Point == nil && a.Ray == nil
	case api.AnFree:
		good = keepsAll(t, l, a.Point) && sumAt(t, goal, a.Ray).Sign() > 0 && a.Value == "" && a.Weights == nil
		for _, r := range l {
			good = good && sumAt(t, r.Terms, a.Ray).Sign() <= 0
		}
	}
	if !good {
		text, _ := exact.Print(l)
		t.Fatalf("this answer does not hold: %v\ngoal %v, rows\n%s", a, goal, text)
	}
}

// number makes random numbers of rows: small ones, so that much meets in one point.
func number(r *rand.Rand) string {
	switch r.Intn(8) {
	case 0:
		return string(frac(big.NewRat(int64(r.Intn(9)-4), int64(1+r.Intn(4)))))
	case 1:
		return string(frac(big.NewRat(r.Int63n(2e12-1)-1e12+1, 1+r.Int63n(1e12-1))))
	}
	return fmt.Sprint(r.Intn(7) - 3)
}

// randomTerms makes terms in up to n unknowns.
func randomTerms(r *rand.Rand, n int) []api.Term {
	var l []api.Term
	for k := range n {
		if coef := number(r); coef != "0" && r.Intn(3) > 0 {
			l = append(l, api.Term{Name: fmt.Sprintf("x%d", k), Coef: api.Frac(coef)})
		}
	}
	return l
}

// randomRows makes m rows in up to n unknowns: many of them equal, opposite, or sums of others.
func randomRows(r *rand.Rand, m, n int) []api.Row {
	var l []api.Row
	for len(l) < m {
		x := api.Row{Terms: randomTerms(r, n), Bound: api.Frac(number(r))}
		if r.Intn(2) == 0 {
			x.Bound = api.Frac(fmt.Sprint(r.Intn(5)))
		}
		if len(l) > 0 && r.Intn(4) == 0 {
			x.Terms = append([]api.Term(nil), l[r.Intn(len(l))].Terms...)
		}
		l = append(l, x)
		if r.Intn(5) == 0 {
			y := api.Row{Bound: api.Frac(number(r))}
			for _, term := range x.Terms {
				term.Coef, _ = exact.Neg(term.Coef)
				y.Terms = append(y.Terms, term)
			}
			if r.Intn(2) == 0 {
				y.Bound, _ = exact.Neg(x.Bound)
			}
			l = append(l, y)
		}
	}
	return l
}
