package limit_test

import (
	"math/big"
	"math/rand"
	"slices"
	"testing"

	"underpin/api"
	"underpin/exact"
	"underpin/limit"
)

// field is what the chapter says that the square bears.
const field = "load 1 y-00 -1 y-01 -1"

// slide is how the chapter says that the square breaks.
const slide = "s-02 2 u-01 -1 w-01 -1"

// badPoints are points that are none, and the error.
var badPoints = []struct {
	point []api.Value
	want  api.Errno
}{
	{[]api.Value{{Name: "", Value: "x"}}, api.ErrName},
	{[]api.Value{{Name: "Load", Value: "1"}}, api.ErrName},
	{[]api.Value{{Name: "load", Value: "x"}}, api.ErrForm},
	{[]api.Value{{Name: "load", Value: ""}}, api.ErrForm},
	{[]api.Value{{Name: "load", Value: api.Frac(most + "0")}}, api.ErrForm},
	{point("load 1 load 1"), api.ErrTwice},
	{point("y-00 1 load 1"), api.ErrArg},
	{point("load 1000 load x"), api.ErrForm},
}

// TestBears: P4.3.
func TestBears(t *testing.T) {
	for _, c := range []struct {
		what, field string
		load        api.Frac
		is          bool
	}{
		{"the example", field, "1", true},
		{"the greatest", "load 2 y-00 -2 y-01 -2", "2", true},
		{"too great", "load 3 y-00 -3 y-01 -3", "", false},
		{"just too great", "load 1000001/500000 y-00 -1000001/500000 y-01 -1000001/500000", "", false},
		{"the least", "load -2 y-00 2 y-01 2", "-2", true},
		{"nothing", "", "0", true},
		{"0", "load 0", "0", true},
		{"not in balance", "load 1", "", false},
		{"not in balance", "load 1 y-01 -1", "", false},
		{"load is not named", "y-01 -1", "", false},
		{"not in balance in X", "x-00 1", "", false},
		{"a quotient", "load -7/4 y-00 7/4 y-01 7/4", "-7/4", true},
		{"other unknowns", "a 1 load 1 y-00 -1 y-01 -1 z 5", "1", true},
		{"shear along the joint", "t-00 1 x-00 1", "", false},
	} {
		load, is, e := limit.Bears(example(), point(c.field))
		equal(t, c.what, said(load, is, e), said(c.load, c.is, api.OK))
	}
	for _, c := range badPoints {
		load, is, e := limit.Bears(example(), c.point)
		equal(t, "bad points", said(load, is, e), said(api.Frac(""), false, c.want))
	}
}

// TestBearsMuch: P4.3, no number of a field is too long.
func TestBearsMuch(t *testing.T) {
	m := example()
	m.Sides = m.Sides[:1]
	for _, a := range []string{most, "-" + most, most + "/" + most[1:] + "7"} {
		load, is, e := limit.Bears(m, point("load "+a))
		equal(t, "long numbers", []any{load, is, e}, []any{api.Frac(a), true, api.OK})
	}
	load, is, e := limit.Bears(example(), point("load 1 y-00 -1 y-01 -1 z "+most))
	equal(t, "others", said(load, is, e), said(api.Frac("1"), true, api.OK))
	load, is, e = limit.Bears(example(), point("load "+most+" y-00 -"+most+" y-01 -"+most))
	equal(t, "too much", said(load, is, e), said(api.Frac(""), false, api.OK))
}

// TestBreaks: P4.3.
func TestBreaks(t *testing.T) {
	for _, c := range []struct {
		what, moves string
		sense       int
		load        api.Frac
		is          bool
	}{
		{"the example", slide, 1, "2", true},
		{"more sliding than there is", "s-02 5/2 u-01 -1 w-01 -1", 1, "5/2", true},
		{"less sliding than there is", "s-02 3/2 u-01 -1 w-01 -1", 1, "", false},
		{"the other sense", "s-02 2 u-01 1 w-01 1", -1, "-2", true},
		{"the wrong sense", slide, -1, "", false},
		{"the wrong sense", "s-02 2 u-01 1 w-01 1", 1, "", false},
		{"twice as fast", "s-02 4 u-01 -2 w-01 -2", 1, "", false},
		{"parting", "w-01 -1", 1, "", false},
		{"into the ground", "w-00 -1 w-01 -1", 1, "", false},
		{"nothing", "", 1, "", false},
		{"only the first row is not kept", "s-02 2 u-00 -1 u-01 -2 w-01 -1", 1, "", false},
		{"all of it aside", "s-00 1/3 s-02 2 u-00 1/3 u-01 -2/3 w-01 -1", 1, "7/3", true},
		{"other unknowns", "a 1 s-02 2 s-03 7 u-01 -1 u-02 1 w-01 -1", 1, "2", true},
	} {
		load, is, e := limit.Breaks(example(), c.sense, point(c.moves))
		equal(t, c.what, said(load, is, e), said(c.load, c.is, api.OK))
	}
	for _, c := range badPoints {
		load, is, e := limit.Breaks(example(), 1, c.point)
		equal(t, "bad points", said(load, is, e), said(api.Frac(""), false, c.want))
	}
	m := example()
	m.Soils[0].Weight, m.Sides[1].Press, m.Sides[1].LivePress = "2", "1/2", "4"
	load, is, e := limit.Breaks(m, 1, point("s-02 1/2 u-01 -1/4 w-01 -1/4"))
	equal(t, "with weight and a load that is always there", said(load, is, e), said(api.Frac("1/8"), true, api.OK))
	load, is, e = limit.Breaks(m, -1, point("s-02 1/2 u-01 1/4 w-01 1/4"))
	equal(t, "with weight, upwards", said(load, is, e), said(api.Frac("-7/8"), true, api.OK))
}

// TestBreaksMuch: P4.3 and R7, ErrLimit if the load factor has too many digits, but only if moves keep the rows.
func TestBreaksMuch(t *testing.T) {
	aside := func(far, last string) []api.Value {
		return point("s-00 " + far + " s-02 2 u-00 " + far + " u-01 " + most[1:] + last + " w-01 -1")
	}
	nines := most[1:]
	load, is, e := limit.Breaks(example(), 1, point("s-00 "+nines+"7 s-02 2 u-00 "+nines+"7 u-01 "+nines+"6 w-01 -1"))
	equal(t, "50000 digits", []any{load, is, e}, []any{api.Frac(most), true, api.OK})
	load, is, e = limit.Breaks(example(), 1, aside(nines+"8", "7"))
	equal(t, "50001 digits", said(load, is, e), said(api.Frac(""), false, api.ErrLimit))
	load, is, e = limit.Breaks(example(), 1, aside(nines+"8", "8"))
	equal(t, "50001 digits of nothing", said(load, is, e), said(api.Frac(""), false, api.OK))
	load, is, e = limit.Breaks(example(), -1, point("s-00 "+nines+"8 s-02 2 u-00 -"+nines+"8 u-01 -"+nines+"7 w-01 1"))
	equal(t, "50001 digits downwards", said(load, is, e), said(api.Frac(""), false, api.ErrLimit))
}

// TestProofErrors: P4.3 to P4.5, the errors in their order.
func TestProofErrors(t *testing.T) {
	none := said(api.Frac(""), false, api.ErrArg)
	for _, sense := range []int{0, 2, -7} {
		load, is, e := limit.Breaks(example(), sense, badPoints[0].point)
		equal(t, "sense", said(load, is, e), none)
	}
	refused := func(what string, m api.Mesh, lower, upper api.Errno) {
		t.Helper()
		load, is, e := limit.Bears(m, badPoints[0].point)
		equal(t, what+": Bears", said(load, is, e), said(api.Frac(""), false, lower))
		load, is, e = limit.Breaks(m, 1, badPoints[0].point)
		equal(t, what+": Breaks", said(load, is, e), said(api.Frac(""), false, upper))
		yes, weights, field, e := limit.Safe(m, "x")
		equal(t, what+": Safe", said(yes, weights, field, e), said(false, []api.Frac(nil), []api.Value(nil), lower))
		first := lower
		if first == api.ErrForm || first == api.ErrName {
			first = upper
		}
		below, above, e := limit.Most(m)
		equal(t, what+": Most", said(below, above, e), said(api.Answer{}, api.Answer{}, first))
		below, above, e = limit.Least(m)
		equal(t, what+": Least", said(below, above, e), said(api.Answer{}, api.Answer{}, first))
	}
	for _, c := range wrongs {
		m := example()
		c.change(&m)
		if c.want != api.ErrForm {
			refused(c.what, m, c.want, c.want)
		}
	}
	m := corner() // the lower program alone is too long
	m.Soils[0] = api.Soil{Cohesion: "1/9949", Sin: "6552/9577", Cos: "6985/9577", Weight: "1/9973"}
	_, _, e := limit.Upper(m, 1)
	equal(t, "the upper program", e, api.OK)
	refused("the lower program", m, api.ErrLimit, api.ErrName)
}

// TestUpperAlone: P4.4, an error of the upper program alone.
func TestUpperAlone(t *testing.T) {
	m := longGoal("9949")
	m.Sides[1].Shear = "1/9941"
	_, _, e := limit.Lower(m)
	equal(t, "the lower program", e, api.OK)
	for _, both := range []func(api.Mesh) (api.Answer, api.Answer, api.Errno){limit.Most, limit.Least} {
		below, above, e := both(m)
		equal(t, "the upper program", said(below, above, e), said(api.Answer{}, api.Answer{}, api.ErrLimit))
	}
	_, is, e := limit.Bears(m, nil)
	equal(t, "Bears", []any{is, e}, []any{false, api.OK})
	yes, weights, field, e := limit.Safe(m, "0")
	equal(t, "Safe", []any{len(weights) == 0, len(field) > 0, e}, []any{yes, yes, api.OK})
}

// TestMostByHand: P4.4, load factors that were reckoned by hand: a column breaks when twice the cohesion times Cos is
// reached, above 0 by what is above 1 less Sin.
func TestMostByHand(t *testing.T) {
	for _, c := range []struct {
		what        string
		soil        api.Soil
		press       api.Frac
		most, least api.Frac
	}{
		{"the example", api.Soil{Cohesion: "1", Sin: "0", Cos: "1", Weight: "0"}, "", "2", "-2"},
		{"more cohesion", api.Soil{Cohesion: "7/2", Sin: "0", Cos: "1", Weight: "0"}, "", "7", "-7"},
		{"a load that is always there", api.Soil{Cohesion: "1", Sin: "0", Cos: "1", Weight: "0"}, "1/2", "3/2", "-5/2"},
		{"weight", api.Soil{Cohesion: "1", Sin: "0", Cos: "1", Weight: "1/3"}, "", "5/3", "-2"},
		{"friction", api.Soil{Cohesion: "1", Sin: "3/5", Cos: "4/5", Weight: "0"}, "", "4", "-1"},
		{"both", api.Soil{Cohesion: "1", Sin: "3/5", Cos: "4/5", Weight: "1"}, "1/2", "5/2", "-3/2"},
		{"nothing", api.Soil{Cohesion: "0", Sin: "3/5", Cos: "4/5", Weight: "0"}, "", "0", "0"},
	} {
		m := example()
		m.Soils[0], m.Sides[1].Press = c.soil, c.press
		lower, upper := mustMost(t, m, 1)
		equal(t, c.what+": most", []any{lower.Kind, lower.Value}, []any{api.AnBest, c.most})
		if upper.Kind == api.AnBest && compared(negative(upper.Value), c.most) < 0 {
			t.Error(c.what, upper.Value)
		}
		lower, upper = mustMost(t, m, -1)
		equal(t, c.what+": least", []any{lower.Kind, lower.Value}, []any{api.AnBest, negative(c.least)})
		if upper.Kind == api.AnBest && compared(upper.Value, c.least) > 0 {
			t.Error(c.what, upper.Value)
		}
	}
	_, upper := mustMost(t, example(), 1)
	equal(t, "the example", upper.Value, api.Frac("-2"))
	_, upper = mustMost(t, example(), -1)
	equal(t, "the example", upper.Value, api.Frac("-2"))
}

// TestMostKinds: P4.4, answers without a best one.
func TestMostKinds(t *testing.T) {
	kinds := func(what string, m api.Mesh, below, above api.AnswerKind) {
		t.Helper()
		for _, sense := range []int{1, -1} {
			lower, upper := mustMost(t, m, sense)
			equal(t, what, []api.AnswerKind{lower.Kind, upper.Kind}, []api.AnswerKind{below, above})
		}
	}
	m := example()
	m.Sides = m.Sides[:1]
	kinds("no live load", m, api.AnFree, api.AnEmpty)
	m.Sides = append(m.Sides, api.Side{A: 2, B: 3, Press: "3"})
	kinds("a dead load that is too great", m, api.AnEmpty, api.AnEmpty)
	m.Sides[1].LivePress = "1"
	m.Sides = append(m.Sides, api.Side{A: 1, B: 2, Shear: "1"})
	kinds("a shear that nothing bears", m, api.AnEmpty, api.AnBest)
	m = example()
	m.Soils[0].Weight, m.Sides = "1", m.Sides[1:]
	kinds("held from above", m, api.AnBest, api.AnBest)
	lower, upper := mustMost(t, m, 1)
	equal(t, "held from above", []api.Frac{lower.Value, upper.Value}, []api.Frac{"-1", "1"})
	m.Sides = []api.Side{{A: 1, B: 2, LivePress: "1"}}
	kinds("nothing below", m, api.AnEmpty, api.AnFree)
	m = example()
	m.Faces = m.Faces[:1]
	m.Sides = []api.Side{{A: 0, B: 1, Fixed: true}, {A: 1, B: 2, Fixed: true}, {A: 2, B: 0, LivePress: "1"}}
	kinds("two sides fixed", m, api.AnFree, api.AnEmpty)
	m.Soils[0].Sin, m.Soils[0].Cos = "3/5", "4/5"
	lower, upper = mustMost(t, m, 1)
	equal(t, "pressed together", []api.AnswerKind{lower.Kind, upper.Kind}, []api.AnswerKind{api.AnFree, api.AnEmpty})
	lower, upper = mustMost(t, m, -1)
	equal(t, "drawn apart", []api.AnswerKind{lower.Kind, upper.Kind}, []api.AnswerKind{api.AnBest, api.AnBest})
}

// between returns how a number lies between others, if there are any.
func between(r *rand.Rand, low, high api.Frac) api.Frac {
	share := big.NewRat(int64(r.Intn(5)), 4)
	return frac(plus(rat(low), times(share, minus(rat(high), rat(low)))))
}

// safeAs fails unless Safe proves what it says.
func safeAs(t testing.TB, m api.Mesh, load api.Frac) bool {
	t.Helper()
	yes, weights, field, e := limit.Safe(m, load)
	equal(t, "Safe", e, api.OK)
	if yes {
		equal(t, "no weights", len(weights), 0)
		borne, is, e := limit.Bears(m, field)
		equal(t, "the field", said(borne, is, e), said(load, true, api.OK))
		return true
	}
	equal(t, "no field", len(field), 0)
	rows, _, _ := limit.Lower(m)
	rows = append(rows, api.Row{Terms: []api.Term{{Name: "load", Coef: "1"}}, Bound: load}, api.Row{Terms: []api.Term{{Name: "load", Coef: "-1"}}, Bound: negative(load)})
	proves, e := exact.CheckEmpty(rows, weights)
	equal(t, "the weights", []any{proves, e}, []any{true, api.OK})
	return false
}

// TestSafe: P4.5.
func TestSafe(t *testing.T) {
	for load, want := range map[api.Frac]bool{
		"0": true, "1": true, "2": true, "-2": true, "3/2": true, "3": false, "-3": false, "2000001/1000000": false,
		"999999999999/500000000000": true, api.Frac(most12): false, api.Frac("-" + most12): false, api.Frac("1/" + most12): true,
	} {
		equal(t, string(load), safeAs(t, example(), load), want)
	}
	for load, want := range map[api.Frac]api.Errno{
		"": api.ErrForm, "x": api.ErrForm, "2/4": api.ErrForm, "-0": api.ErrForm, "1.5": api.ErrForm, api.Frac(most + "0"): api.ErrForm,
		api.Frac(over12): api.ErrLimit, api.Frac("-" + over12): api.ErrLimit, api.Frac("1/" + over12): api.ErrLimit, api.Frac(most): api.ErrLimit,
	} {
		yes, weights, field, e := limit.Safe(example(), load)
		equal(t, "a load that is none", said(yes, weights, field, e), said(false, []api.Frac(nil), []api.Value(nil), want))
	}
	m := example()
	m.Sides = m.Sides[:1]
	equal(t, "any load", safeAs(t, m, api.Frac(most12)), true)
	m.Sides = append(m.Sides, api.Side{A: 2, B: 3, Press: "3"})
	equal(t, "no load", safeAs(t, m, "0"), false)
}

// TestEnclosed: P4.4, P4.5, P4.6 and P0.2, what is told of any mesh is proved, and encloses the truth.
func TestEnclosed(t *testing.T) {
	r := rand.New(rand.NewSource(20))
	kinds := map[api.AnswerKind]int{}
	for i := range 40 {
		m := block(r, 1+r.Intn(3), 1+r.Intn(2), i%3 == 0)
		if i%5 == 4 {
			m = tangle(r, 4+r.Intn(6), 2+r.Intn(5))
		}
		if len(m.Faces) == 0 {
			continue
		}
		lower, upper := mustMost(t, m, 1)
		below, above := mustMost(t, m, -1)
		kinds[lower.Kind]++
		if lower.Kind != api.AnBest || below.Kind != api.AnBest {
			continue
		}
		if upper.Kind == api.AnBest && compared(lower.Value, negative(upper.Value)) > 0 {
			t.Fatal("the greatest load factor", lower.Value, upper.Value)
		}
		if above.Kind == api.AnBest && compared(negative(below.Value), above.Value) < 0 {
			t.Fatal("the least load factor", below.Value, above.Value)
		}
		most, is, e := limit.Bears(m, lower.Point)
		equal(t, "the field of the greatest", said(most, is, e), said(lower.Value, true, api.OK))
		least, is, e := limit.Bears(m, below.Point)
		equal(t, "the field of the least", said(least, is, e), said(negative(below.Value), true, api.OK))
		if upper.Kind == api.AnBest {
			load, is, e := limit.Breaks(m, 1, upper.Point)
			equal(t, "the moves", said(load, is, e), said(negative(upper.Value), true, api.OK))
		}
		if above.Kind == api.AnBest {
			load, is, e := limit.Breaks(m, -1, above.Point)
			equal(t, "the moves downwards", said(load, is, e), said(above.Value, true, api.OK))
		}
		if inner := between(r, least, most); short(inner) {
			equal(t, "between", safeAs(t, m, inner), true)
		}
		for _, beyond := range []*big.Rat{plus(rat(most), big.NewRat(1, 3)), minus(rat(least), big.NewRat(2, 7))} {
			if short(frac(beyond)) {
				equal(t, "beyond", safeAs(t, m, frac(beyond)), false)
			}
		}
	}
	if kinds[api.AnBest] < 12 {
		t.Error("too few:", kinds)
	}
}

// short tells whether a number may be in rows.
func short(a api.Frac) bool {
	return exact.Check([]api.Row{{Bound: a}}) == api.OK
}

// mixed is what lies between two fields.
func mixed(a, b []api.Value, share *big.Rat) []api.Value {
	sums := map[string]*big.Rat{}
	for i, l := range [][]api.Value{a, b} {
		part := share
		if i == 1 {
			part = minus(number(1), share)
		}
		for _, v := range l {
			if sums[v.Name] == nil {
				sums[v.Name] = new(big.Rat)
			}
			sums[v.Name] = plus(sums[v.Name], times(part, rat(v.Value)))
		}
	}
	var l []api.Value
	for name, x := range sums {
		l = append(l, api.Value{Name: name, Value: frac(x)})
	}
	slices.SortFunc(l, func(a, b api.Value) int {
		if a.Name < b.Name {
			return -1
		}
		return 1
	})
	return l
}

// anyMoves finds some moves that keep the rows of the upper program, if there are any.
func anyMoves(t testing.TB, r *rand.Rand, m api.Mesh, sense int) ([]api.Value, bool) {
	t.Helper()
	rows, _, e := limit.Upper(m, sense)
	equal(t, "Upper", e, api.OK)
	names, _ := exact.Names(rows)
	var goal []api.Term
	for _, name := range names {
		if coef := frac(number(r.Intn(9) - 4)); coef != "0" {
			goal = append(goal, api.Term{Name: name, Coef: coef})
		}
	}
	a, e := exact.Solve(rows, goal)
	equal(t, "Solve", e, api.OK)
	return a.Point, a.Kind != api.AnEmpty
}

// TestWhatFollows: P4.6.
func TestWhatFollows(t *testing.T) {
	r := rand.New(rand.NewSource(21))
	done := 0
	for range 40 {
		m := block(r, 1+r.Intn(2), 1+r.Intn(2), r.Intn(2) == 0)
		lower, _ := mustMost(t, m, 1)
		below, _ := mustMost(t, m, -1)
		if lower.Kind != api.AnBest || below.Kind != api.AnBest {
			continue
		}
		done++
		share := big.NewRat(int64(r.Intn(7)), 6)
		inner := mixed(lower.Point, below.Point, share)
		load, is, e := limit.Bears(m, inner)
		want := plus(times(share, rat(lower.Value)), times(minus(number(1), share), minus(new(big.Rat), rat(below.Value))))
		equal(t, "between two", said(load, is, e), said(frac(want), true, api.OK))
		for _, sense := range []int{1, -1} {
			for range 4 {
				moves, are := anyMoves(t, r, m, sense)
				if !are {
					break
				}
				broken, is, e := limit.Breaks(m, sense, moves)
				equal(t, "breaks", []any{is, e}, []any{true, api.OK})
				if compared(load, broken)*sense > 0 {
					t.Fatal("borne", load, "broken", broken, sense)
				}
			}
		}
		stronger := copied(m)
		for i := range stronger.Soils {
			stronger.Soils[i].Cohesion = frac(plus(rat(stronger.Soils[i].Cohesion), big.NewRat(int64(r.Intn(9)), 2)))
		}
		again, is, e := limit.Bears(stronger, inner)
		equal(t, "more cohesion", said(again, is, e), said(load, true, api.OK))
	}
	if done < 12 {
		t.Error("too few:", done)
	}
}
