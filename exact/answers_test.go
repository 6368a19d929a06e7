package exact_test

import (
	"fmt"
	"math/big"
	"math/rand"
	"slices"
	"testing"

	"underpin/api"
	"underpin/exact"
)

// TestSolveOrdinary: P1.8, programs whose answers are known.
func TestSolveOrdinary(t *testing.T) {
	for _, c := range []struct {
		text  string
		goal  []api.Term
		kind  api.AnswerKind
		value api.Frac
	}{
		{"1 x <= 3\n-1 x <= 0\n", terms("x", "2"), api.AnBest, "6"},
		{"1 x 1 y <= 4\n1 x 3 y <= 6\n-1 x <= 0\n-1 y <= 0\n", terms("x", "1", "y", "2"), api.AnBest, "5"},
		{"1 x <= 1\n", terms("x", "-1"), api.AnFree, ""},
		{"1 x <= 1\n", terms("y", "1"), api.AnFree, ""},
		{"1 x <= 1\n", nil, api.AnBest, "0"},
		{"", nil, api.AnBest, "0"},
		{"", terms("x", "1/7"), api.AnFree, ""},
		{"<= 0\n", nil, api.AnBest, "0"},
		{"<= -1/3\n", terms("x", "1"), api.AnEmpty, ""},
		{"<= 1\n", terms("x", "1"), api.AnFree, ""},
		{"1 x <= 1\n-1 x <= -2\n", terms("x", "1"), api.AnEmpty, ""},
		{"1 x <= 1\n-1 x <= -2\n", terms("y", "1"), api.AnEmpty, ""},
		{"1 x = 1/3\n", terms("x", "-3/2"), api.AnBest, "-1/2"},
		{"1 x 1 y = 2\n1 x -1 y = 1\n1 x 2 y = 5/2\n", terms("x", "1", "y", "1"), api.AnBest, "2"},
		{"1 x 1 y = 2\n1 x -1 y = 1\n1 x 2 y = 3\n", terms("x", "1", "y", "1"), api.AnEmpty, ""},
		{"1 x -1 y <= 0\n-1 x 1 y <= 0\n", terms("x", "1", "y", "-1"), api.AnBest, "0"},
		{"1 x -1 y <= 0\n-1 x 1 y <= 0\n", terms("x", "1"), api.AnFree, ""},
		{"1 x 1 y <= 1\n", terms("x", "2", "y", "2"), api.AnBest, "2"},
		{"999999999999 x <= 1/999999999999\n", terms("x", "1/999999999998"), api.AnBest, "1/999999999996000000000004999999999998"},
		// a program on which the simplex method goes round in circles if it always takes the greatest gain (Beale)
		{"1/4 a -60 b -1/25 c 9 d <= 0\n1/2 a -90 b -1/50 c 3 d <= 0\n1 c <= 1\n-1 a <= 0\n-1 b <= 0\n-1 c <= 0\n-1 d <= 0\n", terms("a", "3/4", "b", "-150", "c", "1/50", "d", "-6"), api.AnBest, "1/20"},
		{"1/2 a -11/2 b -5/2 c 9 d <= 0\n1/2 a -3/2 b -1/2 c 1 d <= 0\n1 a <= 1\n-1 a <= 0\n-1 b <= 0\n-1 c <= 0\n-1 d <= 0\n", terms("a", "10", "b", "-57", "c", "-9", "d", "-24"), api.AnBest, "1"},
	} {
		l := rows(t, c.text)
		a, e := exact.Solve(l, c.goal)
		equal(t, c.text, e, api.OK)
		equal(t, c.text, []any{a.Kind, a.Value}, []any{c.kind, c.value})
		holds(t, l, c.goal, a)
		equal(t, "verified", exact.Verify(l, c.goal, a), api.OK)
	}
}

// TestSolveExample: P1.8, the example of the chapter, in which nothing is free.
func TestSolveExample(t *testing.T) {
	a, e := exact.Solve(rows(t, "1 x <= 3\n-1 x <= 0\n"), terms("x", "2"))
	equal(t, "error", e, api.OK)
	equal(t, "answer", a, api.Answer{Kind: api.AnBest, Value: "6", Point: point("x", "3"), Weights: fracs("2", "0")})
}

// TestSolveRandom: P1.8, each answer is proved by other arithmetic, and so is right.
func TestSolveRandom(t *testing.T) {
	r := rand.New(rand.NewSource(5))
	kinds := map[api.AnswerKind]int{}
	for i := range 3000 {
		n := 1 + r.Intn(5)
		l, goal := randomRows(r, r.Intn(4*n), n), randomTerms(r, n)
		if i%4 == 0 && len(l) > 0 { // a goal that is a sum of rows has a greatest value
			w := make([]api.Frac, len(l))
			for k := range w {
				w[k] = api.Frac(fmt.Sprint(r.Intn(3)))
			}
			coefs, _ := weigh(t, l, w)
			goal = nil
			for _, name := range []string{"x0", "x1", "x2", "x3", "x4"} {
				if coefs[name] != nil {
					goal = append(goal, api.Term{Name: name, Coef: frac(coefs[name])})
				}
			}
			if exact.Check([]api.Row{{Terms: goal, Bound: "0"}}) != api.OK {
				continue
			}
		}
		a, e := exact.Solve(l, goal)
		equal(t, "error", e, api.OK)
		holds(t, l, goal, a)
		equal(t, "verified", exact.Verify(l, goal, a), api.OK)
		kinds[a.Kind]++
	}
	if kinds[api.AnBest] < 300 || kinds[api.AnEmpty] < 300 || kinds[api.AnFree] < 300 {
		t.Error("too few answers of a kind:", kinds)
	}
}

// TestSolveLarge: P1.8, at the limits of rows and unknowns.
func TestSolveLarge(t *testing.T) {
	r := rand.New(rand.NewSource(6))
	var l []api.Row
	var goal []api.Term
	for k := range api.MaxVars {
		goal = append(goal, api.Term{Name: fmt.Sprintf("u%02d", k), Coef: api.Frac(fmt.Sprint(1 + r.Intn(9)))})
	}
	for len(l) < api.MaxRows {
		x := api.Row{Bound: api.Frac(fmt.Sprint(1 + r.Intn(100)))}
		for _, term := range goal {
			if r.Intn(20) == 0 {
				x.Terms = append(x.Terms, api.Term{Name: term.Name, Coef: api.Frac(fmt.Sprint(1 + r.Intn(5)))})
			}
		}
		l = append(l, x)
	}
	a, e := exact.Solve(l, goal)
	equal(t, "error", e, api.OK)
	equal(t, "kind", a.Kind, api.AnBest)
	holds(t, l, goal, a)
	equal(t, "verified", exact.Verify(l, goal, a), api.OK)
}

// TestSolveMeeting: P1.8 and P0.1, programs in which all rows meet in one point, where many moves gain nothing: the search
// ends all the same. (Of the first seeds it would not without a rule against circles.)
func TestSolveMeeting(t *testing.T) {
	for _, seed := range []int64{2132, 411, 2144, 2378, 2559, 2622, 1, 2, 3, 4, 5, 6, 7, 8} {
		r := rand.New(rand.NewSource(seed))
		n := 4 + r.Intn(16)
		m := n * (2 + r.Intn(4))
		goal := randomTermsOf(r, n, 1, 20)
		var l []api.Row
		for range m {
			l = append(l, api.Row{Terms: randomTermsOf(r, n, -9, 10), Bound: "0"})
		}
		a, e := exact.Solve(l, goal)
		equal(t, "error", e, api.OK)
		holds(t, l, goal, a)
	}
}

// randomTermsOf makes terms in n unknowns, with whole numbers from low to high.
func randomTermsOf(r *rand.Rand, n, low, high int) []api.Term {
	var l []api.Term
	for k := range n {
		if coef := low + r.Intn(high-low+1); coef != 0 {
			l = append(l, api.Term{Name: fmt.Sprintf("u%02d", k), Coef: api.Frac(fmt.Sprint(coef))})
		}
	}
	return l
}

// TestSolveErrors: P1.8, in order, of Solve and Verify.
func TestSolveErrors(t *testing.T) {
	check := func(what string, l []api.Row, goal []api.Term, want api.Errno) {
		t.Helper()
		a, e := exact.Solve(l, goal)
		equal(t, what, e, want)
		equal(t, what, a, api.Answer{})
		equal(t, what, exact.Verify(l, goal, api.Answer{Kind: 99}), want)
	}
	for _, c := range badTerms {
		check("rows", []api.Row{{Terms: c.terms, Bound: "1"}}, terms("X", "0"), c.want)
		check("goal", rows(t, "1 x <= 1\n"), c.terms, c.want)
	}
	check("many rows", manyRows(801, 1), terms("X", "1"), api.ErrLimit)
	check("81 unknowns", manyRows(80, 80), terms("v", "1"), api.ErrLimit)
	check("81 unknowns and an error", manyRows(80, 80), terms("v", "x"), api.ErrForm)
	a, e := exact.Solve(manyRows(80, 80), terms("u79", "1"))
	equal(t, "80 unknowns", []any{a.Kind, a.Value, e}, []any{api.AnBest, api.Frac("1"), api.OK})
}

// TestVerify: P1.8, what holds and what does not.
func TestVerify(t *testing.T) {
	l := rows(t, "1 x 1 y <= 4\n1 x 3 y <= 6\n-1 x <= 0\n-1 y <= 0\n")
	goal := terms("x", "1", "y", "2")
	best := api.Answer{Kind: api.AnBest, Value: "5", Point: point("x", "3", "y", "1"), Weights: fracs("1/2", "1/2", "0", "0")}
	with := func(change func(a *api.Answer)) api.Answer {
		a := best
		a.Point, a.Weights = slices.Clone(a.Point), slices.Clone(a.Weights)
		change(&a)
		return a
	}
	for what, a := range map[string]api.Answer{
		"as it is":        best,
		"more unknowns":   with(func(a *api.Answer) { a.Point = point("w", "9", "x", "3", "y", "1", "z", "-1") }),
		"a ray as well":   with(func(a *api.Answer) { a.Ray = point("X", "z", "X", "") }),
		"another way too": with(func(a *api.Answer) { a.Ray = point("x", "1") }),
	} {
		equal(t, what, exact.Verify(l, goal, a), api.OK)
	}
	for what, a := range map[string]api.Answer{
		"another value":       with(func(a *api.Answer) { a.Value = "4" }),
		"a greater value":     with(func(a *api.Answer) { a.Value = "6" }),
		"no value":            with(func(a *api.Answer) { a.Value = "" }),
		"no number":           with(func(a *api.Answer) { a.Value = "10/2" }),
		"another point":       with(func(a *api.Answer) { a.Point = point("x", "2", "y", "1") }),
		"best, but not right": with(func(a *api.Answer) { a.Point, a.Value = point("x", "2", "y", "1"), "4" }),
		"a point outside":     with(func(a *api.Answer) { a.Point = point("x", "1", "y", "2") }),
		"no point":            with(func(a *api.Answer) { a.Point = nil }),
		"a point out of turn": with(func(a *api.Answer) { a.Point = point("y", "1", "x", "3") }),
		"a name twice":        with(func(a *api.Answer) { a.Point = point("x", "3", "x", "3", "y", "1") }),
		"a name that is none": with(func(a *api.Answer) { a.Point = point("X", "1", "x", "3", "y", "1") }),
		"a value of no form":  with(func(a *api.Answer) { a.Point = point("a", "1.5", "x", "3", "y", "1") }),
		"too few weights":     with(func(a *api.Answer) { a.Weights = a.Weights[:3] }),
		"no weights":          with(func(a *api.Answer) { a.Weights = nil }),
		"too many weights":    with(func(a *api.Answer) { a.Weights = append(a.Weights, "0") }),
		"a weight of no form": with(func(a *api.Answer) { a.Weights[3] = "0/1" }),
		"a weight below 0":    with(func(a *api.Answer) { a.Weights = fracs("2", "-1/4", "1/4", "0") }),
		"other weights":       with(func(a *api.Answer) { a.Weights[0] = "1" }),
		"greater weights":     with(func(a *api.Answer) { a.Weights = fracs("1", "1", "0", "0") }),
		"as if empty":         with(func(a *api.Answer) { a.Kind = api.AnEmpty }),
		"as if free":          with(func(a *api.Answer) { a.Kind, a.Ray = api.AnFree, point("x", "1") }),
	} {
		equal(t, what, exact.Verify(l, goal, a), api.ErrState)
	}
	for _, kind := range []api.AnswerKind{api.AnNone, 4, 255} {
		equal(t, "kind", exact.Verify(l, goal, with(func(a *api.Answer) { a.Kind = kind })), api.ErrArg)
	}
	// weights that prove a lesser bound than the value: the point is missing that has the value
	equal(t, "no point has it", exact.Verify(rows(t, "1 x <= 3\n"), terms("x", "1"), api.Answer{Kind: api.AnBest, Value: "4", Point: point("x", "4"), Weights: fracs("1")}), api.ErrState)
	// rows that are empty imply all, but nothing is the greatest value
	equal(t, "best of none", exact.Verify(rows(t, "<= -1\n"), terms("x", "1"), api.Answer{Kind: api.AnBest, Value: "0", Weights: fracs("1")}), api.ErrState)
}

// TestVerifyEmptyAndFree: P1.8.
func TestVerifyEmptyAndFree(t *testing.T) {
	l := rows(t, "1 x <= 1\n-2 x <= -4\n1 y <= 0\n")
	for _, c := range []struct {
		weights []api.Frac
		want    api.Errno
	}{
		{fracs("2", "1", "0"), api.OK}, {fracs("1/3", "1/6", "0"), api.OK},
		{fracs("1", "1", "0"), api.ErrState}, {fracs("0", "0", "0"), api.ErrState}, {fracs("2", "1", "1"), api.ErrState},
		{fracs("2", "1"), api.ErrState}, {nil, api.ErrState}, {fracs("2", "1", "x"), api.ErrState}, {fracs("-2", "-1", "0"), api.ErrState},
	} {
		a := api.Answer{Kind: api.AnEmpty, Weights: c.weights, Value: "x", Point: point("X", ""), Ray: point("X", "")}
		equal(t, fmt.Sprint(c.weights), exact.Verify(l, terms("x", "1"), a), c.want)
	}
	equal(t, "not below 0", exact.Verify(rows(t, "1 x <= 1\n-1 x <= -1\n"), nil, api.Answer{Kind: api.AnEmpty, Weights: fracs("1", "1")}), api.ErrState)

	l, goal := rows(t, "1 x -1 y <= 1\n-1 x <= 0\n"), terms("x", "1", "y", "-1/2")
	for _, c := range []struct {
		point, ray []api.Value
		want       api.Errno
	}{
		{nil, point("x", "1", "y", "1"), api.OK},
		{point("x", "1", "y", "5", "z", "1/2"), point("x", "7/3", "y", "5/2", "zz", "-1"), api.OK},
		{point("x", "2"), point("x", "1", "y", "1"), api.ErrState},
		{nil, point("x", "1"), api.ErrState},
		{nil, point("x", "1", "y", "2"), api.ErrState},
		{nil, point("x", "-1", "y", "-3"), api.ErrState},
		{nil, nil, api.ErrState},
		{nil, point("y", "1", "x", "1"), api.ErrState},
		{nil, point("x", "1", "y", "1/1"), api.ErrState},
		{point("x", "0/1"), point("x", "1", "y", "1"), api.ErrState},
	} {
		a := api.Answer{Kind: api.AnFree, Point: c.point, Ray: c.ray, Value: "x", Weights: fracs("x")}
		equal(t, fmt.Sprint(c.point, c.ray), exact.Verify(l, goal, a), c.want)
	}
}

// TestVerifyChanged: P1.8, an answer in which a number is changed holds no more, or is another one that holds.
func TestVerifyChanged(t *testing.T) {
	r := rand.New(rand.NewSource(7))
	for range 400 {
		n := 1 + r.Intn(3)
		l, goal := randomRows(r, 1+r.Intn(4*n), n), randomTerms(r, n)
		a, _ := exact.Solve(l, goal)
		if a.Kind != api.AnBest {
			continue
		}
		a.Value, _ = exact.Add(a.Value, api.Frac(fmt.Sprintf("-1/%d", 2+r.Intn(9))))
		equal(t, "a lesser value", exact.Verify(l, goal, a), api.ErrState)
	}
}

// TestEmpty: P1.9.
func TestEmpty(t *testing.T) {
	yes, w, p, e := exact.Empty(rows(t, "1 x <= 1\n-1 x <= -2\n"))
	equal(t, "example", []any{yes, p == nil, e}, []any{true, true, api.OK})
	equal(t, "weights", w, fracs("1", "1"))
	r := rand.New(rand.NewSource(8))
	empties := 0
	for range 1000 {
		n := 1 + r.Intn(4)
		l := randomRows(r, r.Intn(4*n), n)
		yes, w, p, e := exact.Empty(l)
		checkPoint(t, p)
		if e != api.OK || yes && (!provesEmpty(t, l, w) || p != nil) || !yes && (w != nil || !keepsAll(t, l, p)) {
			t.Fatal(l, yes, w, p, e)
		}
		if yes {
			empties++
			ok, e := exact.CheckEmpty(l, w)
			equal(t, "checked", []any{ok, e}, []any{true, api.OK})
		}
	}
	if empties < 200 || empties > 800 {
		t.Error("too few of a kind:", empties)
	}
	for _, c := range badTerms {
		l := []api.Row{{Terms: c.terms, Bound: "1"}}
		yes, w, p, e := exact.Empty(l)
		equal(t, "error", []any{yes, w == nil, p == nil, e}, []any{false, true, true, c.want})
		ok, e := exact.CheckEmpty(l, fracs("x"))
		equal(t, "error", []any{ok, e}, []any{false, c.want})
	}
	_, _, _, e = exact.Empty(manyRows(81, 81))
	equal(t, "many unknowns", e, api.ErrLimit)
}

// TestCheckEmpty: P1.9.
func TestCheckEmpty(t *testing.T) {
	l := rows(t, "1 x 1 y <= 1\n-1 x <= -1\n-1 y <= -1/2\n")
	for _, c := range []struct {
		weights []api.Frac
		want    bool
	}{
		{fracs("1", "1", "1"), true}, {fracs("22/7", "22/7", "22/7"), true}, {fracs("1", "1", "0"), false}, {fracs("0", "0", "0"), false},
		{fracs("-1", "-1", "-1"), false}, {fracs("1", "1"), false}, {fracs("1", "1", "1", "0"), false}, {nil, false}, {fracs("1", "1", "2/2"), false}, {fracs("1", "1", ""), false},
	} {
		ok, e := exact.CheckEmpty(l, c.weights)
		equal(t, fmt.Sprint(c.weights), []any{ok, e}, []any{c.want, api.OK})
	}
	ok, e := exact.CheckEmpty(nil, nil)
	equal(t, "no rows", []any{ok, e}, []any{false, api.OK})
	ok, e = exact.CheckEmpty(rows(t, "<= 0\n"), fracs("1"))
	equal(t, "0 is not below 0", []any{ok, e}, []any{false, api.OK})
}

// TestImplied: P1.9.
func TestImplied(t *testing.T) {
	yes, w, p, e := exact.Implied(rows(t, "1 x 1 y <= 2\n-1 y <= 0\n"), row(t, "1 x <= 2\n"))
	equal(t, "example", []any{yes, p == nil, e}, []any{true, true, api.OK})
	equal(t, "weights", w, fracs("1", "1"))
	for _, c := range []struct {
		text, row string
		want      bool
	}{
		{"1 x <= 1\n", "2 x <= 2\n", true}, {"1 x <= 1\n", "2 x <= 3\n", true}, {"1 x <= 1\n", "2 x <= 19/10\n", false},
		{"1 x <= 1\n", "-1 x <= 5\n", false}, {"1 x <= 1\n", "1 y <= 5\n", false}, {"1 x <= 1\n", "<= 0\n", true}, {"1 x <= 1\n", "<= -1\n", false},
		{"", "<= 0\n", true}, {"", "<= -1/2\n", false}, {"", "1 x <= 100\n", false}, {"<= -1\n", "1 x <= -100\n", true}, {"<= -1\n", "<= -5\n", true},
		{"1 x 1 y = 1\n", "2 x 2 y <= 2\n", true}, {"1 x 1 y = 1\n", "-2 x -2 y <= -2\n", true}, {"1 x 1 y = 1\n", "1 x <= 1000000\n", false},
	} {
		yes, _, _, e := exact.Implied(rows(t, c.text), row(t, c.row))
		equal(t, c.text+c.row, []any{yes, e}, []any{c.want, api.OK})
	}
	r := rand.New(rand.NewSource(9))
	count := map[bool]int{}
	for i := range 1500 {
		n := 1 + r.Intn(4)
		l := randomRows(r, r.Intn(4*n), n)
		x := api.Row{Terms: randomTerms(r, n+1), Bound: api.Frac(number(r))}
		if a, _ := exact.Solve(l, x.Terms); i%2 == 0 && a.Kind == api.AnBest && exact.Check([]api.Row{{Bound: a.Value}}) == api.OK {
			x.Bound = a.Value // it is just implied
		}
		yes, w, p, e := exact.Implied(l, x)
		checkPoint(t, p)
		if e != api.OK || yes && (p != nil || !provesRow(t, l, x, w) && !provesEmpty(t, l, w)) || !yes && (w != nil || !keepsAll(t, l, p) || keeps(t, x, p)) {
			t.Fatal(l, x, yes, w, p, e)
		}
		if yes {
			ok, e := exact.CheckImplied(l, x, w)
			equal(t, "checked", []any{ok, e}, []any{true, api.OK})
		}
		count[yes]++
	}
	if count[true] < 300 || count[false] < 300 {
		t.Error("too few of a kind:", count)
	}
}

// TestImpliedErrors: P1.9, in order.
func TestImpliedErrors(t *testing.T) {
	check := func(what string, l []api.Row, x api.Row, want api.Errno) {
		t.Helper()
		yes, w, p, e := exact.Implied(l, x)
		equal(t, what, []any{yes, w == nil, p == nil, e}, []any{false, true, true, want})
		ok, e := exact.CheckImplied(l, x, nil)
		equal(t, what, []any{ok, e}, []any{false, want})
	}
	for _, c := range badTerms {
		check("rows", []api.Row{{Terms: c.terms, Bound: "1"}}, api.Row{Bound: "x"}, c.want)
		check("row", nil, api.Row{Terms: c.terms, Bound: "x"}, c.want)
	}
	check("bound", nil, api.Row{Bound: "x"}, api.ErrForm)
	check("bound", nil, api.Row{Bound: "1000000000000"}, api.ErrLimit)
	check("many", manyRows(80, 80), row(t, "1 v <= 1\n"), api.ErrLimit)
	check("many, and wrong", manyRows(80, 80), api.Row{Terms: terms("v", "1"), Bound: "x"}, api.ErrForm)
}

// TestCheckImplied: P1.9.
func TestCheckImplied(t *testing.T) {
	l := rows(t, "1 x 1 y <= 2\n-1 y <= 0\n1 y <= -1\n")
	for _, c := range []struct {
		row     string
		weights []api.Frac
		want    bool
	}{
		{"1 x <= 2\n", fracs("1", "1", "0"), true}, {"1 x <= 3\n", fracs("1", "1", "0"), true}, {"1 x <= 3/2\n", fracs("1", "1", "0"), false},
		{"2 x <= 4\n", fracs("2", "2", "0"), true}, {"1 x <= 4\n", fracs("2", "2", "0"), false}, {"1 x 1 y <= 2\n", fracs("1", "0", "0"), true},
		{"1 z <= -5\n", fracs("0", "1", "1"), true},  // the rows are empty
		{"1 z <= -5\n", fracs("0", "1", "2"), false}, // but this is no proof of it
		{"1 x <= 2\n", fracs("1", "1"), false}, {"1 x <= 2\n", fracs("1", "1", "-0"), false}, {"1 x 1 y <= 2\n", fracs("2", "0", "-1"), false}, {"1 x <= 2\n", nil, false},
		{"1 x 1 z <= 2\n", fracs("1", "1", "0"), false}, {"<= 0\n", fracs("0", "0", "0"), true}, {"<= -1\n", fracs("0", "0", "0"), false},
	} {
		ok, e := exact.CheckImplied(l, row(t, c.row), c.weights)
		equal(t, c.row+fmt.Sprint(c.weights), []any{ok, e}, []any{c.want, api.OK})
	}
}

// TestLongWeights: P1.8 and P1.9, proofs may have numbers as long as numbers may be.
func TestLongWeights(t *testing.T) {
	x := api.Frac(most)
	ok, e := exact.CheckEmpty(rows(t, "1 x <= 1\n-1 x <= -2\n1 y <= 0\n-1 y <= 0\n"), []api.Frac{x, x, "1/" + x, "1/" + x})
	equal(t, "long weights", []any{ok, e}, []any{true, api.OK})
	less, _ := exact.Sub(x, "1")
	ok, e = exact.CheckEmpty(rows(t, "1 x <= 1\n-1 x <= -2\n"), []api.Frac{x, less})
	equal(t, "long weights that differ by 1", []any{ok, e}, []any{false, api.OK})
	a := api.Answer{Kind: api.AnFree, Point: []api.Value{{Name: "x", Value: x}}, Ray: []api.Value{{Name: "x", Value: "1/" + x}}}
	equal(t, "a long ray", exact.Verify(rows(t, "-1 x <= 0\n"), terms("x", "1"), a), api.OK)
}

// TestSolveLongNumbers: P1.8, where the numbers of rows are as long as they may be.
func TestSolveLongNumbers(t *testing.T) {
	r := rand.New(rand.NewSource(10))
	long := func() api.Frac {
		return frac(big.NewRat(r.Int63n(2e12-1)-1e12+1, 1+r.Int63n(1e12-1)))
	}
	var l []api.Row
	for range 24 {
		x := api.Row{Bound: long()}
		for k := range 8 {
			x.Terms = append(x.Terms, api.Term{Name: fmt.Sprintf("x%d", k), Coef: long()})
		}
		l = append(l, x)
	}
	for _, goal := range [][]api.Term{nil, l[0].Terms, l[5].Terms} {
		a, e := exact.Solve(l, goal)
		equal(t, "error", e, api.OK)
		holds(t, l, goal, a)
	}
}
