package limit_test

import (
	"fmt"
	"math/big"
	"math/rand"
	"slices"
	"strings"
	"testing"

	"underpin/api"
	"underpin/exact"
	"underpin/limit"
)

// values are those of unknowns; a part is a sum of multiples of them and of a number.
type (
	values map[string]*big.Rat
	part   func(v values) *big.Rat
)

// of is the value of an unknown, 0 if it has none.
func (v values) of(name string, k int) *big.Rat {
	if x := v[fmt.Sprintf("%s-%02d", name, k)]; x != nil {
		return x
	}
	return new(big.Rat)
}

// termsOf finds the terms of a part, and the number in it: how it changes when one unknown is 1.
func termsOf(p part, names []string) (terms []api.Term, number *big.Rat) {
	number = p(values{})
	for _, name := range names {
		if coef := minus(p(values{name: big.NewRat(1, 1)}), number); coef.Sign() != 0 {
			terms = append(terms, api.Term{Name: name, Coef: frac(coef)})
		}
	}
	return terms, number
}

// rowsOf returns the rows that say that each part is at most 0.
func rowsOf(parts []part, names []string) []api.Row {
	var l []api.Row
	for _, p := range parts {
		terms, number := termsOf(p, names)
		l = append(l, api.Row{Terms: terms, Bound: frac(number.Neg(number))})
	}
	return l
}

// both are the two parts that say that one is 0.
func both(p part) []part {
	return []part{p, func(v values) *big.Rat { x := p(v); return x.Neg(x) }}
}

// lengths are the differences of the coordinates of a joint.
func lengths(m api.Mesh, j api.Joint) (dx, dy *big.Rat) {
	a, b := m.Spots[j.A], m.Spots[j.B]
	return number(b.X - a.X), number(b.Y - a.Y)
}

// forceOf is the force of a pressure and a shear on a joint.
func forceOf(m api.Mesh, j api.Joint, press, shear api.Frac) (x, y *big.Rat) {
	dx, dy := lengths(m, j)
	p, s := rat(press), rat(shear)
	return minus(times(s, dx), times(p, dy)), plus(times(s, dy), times(p, dx))
}

// upright is the stress in Y of a triangle at a height.
func upright(m api.Mesh, k int, v values, height *big.Rat) *big.Rat {
	return plus(v.of("y", k), times(rat(m.Soils[m.Faces[k].Soil].Weight), height))
}

// pulls are those of a triangle on a joint at a height.
func pulls(m api.Mesh, j api.Joint, k int, v values, height *big.Rat) (x, y *big.Rat) {
	dx, dy := lengths(m, j)
	x = minus(times(v.of("x", k), dy), times(v.of("t", k), dx))
	return x, minus(times(v.of("t", k), dy), times(upright(m, k, v, height), dx))
}

// balances are the parts that are 0 at a joint.
func balances(m api.Mesh, j api.Joint) []part {
	left := func(v values, height int) (x, y *big.Rat) {
		x, y = pulls(m, j, j.Left, v, number(height))
		if j.Right >= 0 {
			moreX, moreY := pulls(m, j, j.Right, v, number(height))
			return minus(x, moreX), minus(y, moreY)
		}
		s, _ := sideOf(m, j)
		liveX, liveY := forceOf(m, j, s.LivePress, s.LiveShear)
		deadX, deadY := forceOf(m, j, s.Press, s.Shear)
		load := v["load"]
		if load == nil {
			load = new(big.Rat)
		}
		return minus(minus(x, times(load, liveX)), deadX), minus(minus(y, times(load, liveY)), deadY)
	}
	l := both(func(v values) *big.Rat { x, _ := left(v, 0); return x })
	for _, end := range []int{j.A, j.B} {
		l = append(l, both(func(v values) *big.Rat { _, y := left(v, m.Spots[end].Y); return y })...)
	}
	return l
}

// ways are the directions of the chapter.
var ways = [][2]api.Frac{{"1", "0"}, {"4/5", "3/5"}, {"3/5", "4/5"}, {"0", "1"}, {"-3/5", "4/5"}, {"-4/5", "3/5"}, {"-1", "0"}, {"-4/5", "-3/5"}, {"-3/5", "-4/5"}, {"0", "-1"}, {"3/5", "-4/5"}, {"4/5", "-3/5"}, {"1", "0"}}

// strengths are the parts that are at most 0 at a point of a triangle.
func strengths(m api.Mesh, k, point int) []part {
	var l []part
	soil := m.Soils[m.Faces[k].Soil]
	for i := range 12 {
		d1, d2, e1, e2 := rat(ways[i][0]), rat(ways[i][1]), rat(ways[i+1][0]), rat(ways[i+1][1])
		n1, n2 := minus(e2, d2), minus(d1, e1)
		q := plus(times(n1, d1), times(n2, d2))
		l = append(l, func(v values) *big.Rat {
			x, y, t := v.of("x", k), upright(m, k, v, number(m.Spots[point].Y)), v.of("t", k)
			reached := plus(times(n1, minus(x, y)), times(n2, number(2), t), times(q, rat(soil.Sin), plus(x, y)))
			return minus(reached, times(q, number(2), rat(soil.Cohesion), rat(soil.Cos)))
		})
	}
	return l
}

// lowerOf is the lower program, by the words of the chapter.
func lowerOf(m api.Mesh) ([]api.Row, []api.Term) {
	var parts []part
	for _, j := range jointsOf(m) {
		if s, is := sideOf(m, j); !is || !s.Fixed {
			parts = append(parts, balances(m, j)...)
		}
	}
	names := []string{"load"}
	for k, f := range m.Faces {
		for _, point := range []int{f.A, f.B, f.C} {
			parts = append(parts, strengths(m, k, point)...)
		}
		for _, name := range []string{"x", "y", "t"} {
			names = append(names, fmt.Sprintf("%s-%02d", name, k))
		}
	}
	slices.Sort(names)
	return rowsOf(parts, names), []api.Term{{Name: "load", Coef: "1"}}
}

// slides tells whether a joint is a sliding joint.
func slides(m api.Mesh, j api.Joint) bool {
	s, is := sideOf(m, j)
	return j.Right >= 0 || is && s.Fixed
}

// partings is how the sides of a joint part.
func partings(j api.Joint, v values) (x, y *big.Rat) {
	if j.Right < 0 {
		return minus(new(big.Rat), v.of("u", j.Left)), minus(new(big.Rat), v.of("w", j.Left))
	}
	return minus(v.of("u", j.Right), v.of("u", j.Left)), minus(v.of("w", j.Right), v.of("w", j.Left))
}

// slidings are the parts that are at most 0 at a sliding joint.
func slidings(m api.Mesh, j api.Joint, number int) []part {
	dx, dy := lengths(m, j)
	soil := m.Soils[m.Faces[j.Left].Soil]
	friction := new(big.Rat).Quo(rat(soil.Sin), rat(soil.Cos))
	along := func(v values) *big.Rat { x, y := partings(j, v); return plus(times(x, dx), times(y, dy)) }
	back := func(v values) *big.Rat { return minus(new(big.Rat), along(v)) }
	slip := func(v values) *big.Rat { return v.of("s", number) }
	l := []part{
		func(v values) *big.Rat { return minus(along(v), slip(v)) },
		func(v values) *big.Rat { return minus(back(v), slip(v)) },
	}
	return append(l, both(func(v values) *big.Rat {
		x, y := partings(j, v)
		return minus(minus(times(x, dy), times(y, dx)), times(friction, slip(v)))
	})...)
}

// workOf is what the loads on all loaded sides do: of those that are always there, or of the live ones.
func workOf(m api.Mesh, v values, live bool) *big.Rat {
	sum := new(big.Rat)
	for _, j := range jointsOf(m) {
		s, is := sideOf(m, j)
		if !is || s.Fixed {
			continue
		}
		x, y := forceOf(m, j, s.Press, s.Shear)
		if live {
			x, y = forceOf(m, j, s.LivePress, s.LiveShear)
		}
		sum = plus(sum, times(x, v.of("u", j.Left)), times(y, v.of("w", j.Left)))
	}
	return sum
}

// gained is the goal of the upper program.
func gained(m api.Mesh, v values) *big.Rat {
	sum := workOf(m, v, false)
	for k, f := range m.Faces {
		a, b, c := m.Spots[f.A], m.Spots[f.B], m.Spots[f.C]
		twice := number((b.X-a.X)*(c.Y-a.Y) - (c.X-a.X)*(b.Y-a.Y))
		sum = minus(sum, times(rat(m.Soils[f.Soil].Weight), big.NewRat(1, 2), twice, v.of("w", k)))
	}
	for i, j := range jointsOf(m) {
		if slides(m, j) {
			sum = minus(sum, times(rat(m.Soils[m.Faces[j.Left].Soil].Cohesion), v.of("s", i)))
		}
	}
	return sum
}

// upperOf is the upper program, by the words of the chapter.
func upperOf(m api.Mesh, sense int) ([]api.Row, []api.Term) {
	var parts []part
	var names []string
	for i, j := range jointsOf(m) {
		if slides(m, j) {
			parts = append(parts, slidings(m, j, i)...)
			names = append(names, fmt.Sprintf("s-%02d", i))
		}
	}
	for k := range m.Faces {
		names = append(names, fmt.Sprintf("u-%02d", k), fmt.Sprintf("w-%02d", k))
	}
	slices.Sort(names)
	parts = append(parts, both(func(v values) *big.Rat { return minus(workOf(m, v, true), number(sense)) })...)
	goal, _ := termsOf(func(v values) *big.Rat { return gained(m, v) }, names)
	return rowsOf(parts, names), goal
}

// printed writes rows.
func printed(t testing.TB, rows []api.Row) string {
	t.Helper()
	text, e := exact.Print(rows)
	equal(t, "Print", e, api.OK)
	return text
}

// compare fails unless a program is the one of the chapter's words.
func compare(t testing.TB, what string, rows []api.Row, goal []api.Term, wantRows []api.Row, wantGoal []api.Term) {
	t.Helper()
	equal(t, what+": rows", len(rows), len(wantRows))
	for i := range rows {
		equal(t, fmt.Sprint(what, ": row ", i), said(rows[i]), said(wantRows[i]))
	}
	equal(t, what+": goal", said(goal), said(wantGoal))
}

// TestLower: P4.2, against the words of the chapter.
func TestLower(t *testing.T) {
	r := rand.New(rand.NewSource(10))
	for i := range 40 {
		m := tangle(r, 3+r.Intn(10), 1+r.Intn(8))
		if i%3 == 0 {
			m = block(r, 1+r.Intn(2), 1+r.Intn(2), true)
		}
		if len(m.Faces) == 0 {
			continue
		}
		rows, goal, e := limit.Lower(m)
		equal(t, "error", e, api.OK)
		wantRows, wantGoal := lowerOf(m)
		compare(t, "lower", rows, goal, wantRows, wantGoal)
		equal(t, "form", exact.Check(rows), api.OK)
	}
}

// TestUpper: P4.2, against the words of the chapter.
func TestUpper(t *testing.T) {
	r := rand.New(rand.NewSource(11))
	for i := range 120 {
		m := tangle(r, 3+r.Intn(10), 1+r.Intn(8))
		if i%3 == 0 {
			m = block(r, 1+r.Intn(2), 1+r.Intn(2), true)
		}
		if len(m.Faces) == 0 {
			continue
		}
		for _, sense := range []int{1, -1} {
			rows, goal, e := limit.Upper(m, sense)
			equal(t, "error", e, api.OK)
			wantRows, wantGoal := upperOf(m, sense)
			compare(t, "upper", rows, goal, wantRows, wantGoal)
			equal(t, "form", exact.Check(rows), api.OK)
		}
	}
}

// corner is one triangle with weight and friction: fixed below, loaded at its slope.
func corner() api.Mesh {
	return api.Mesh{
		Soils: []api.Soil{{Cohesion: "5", Sin: "3/5", Cos: "4/5", Weight: "2"}},
		Spots: []api.Spot{{X: 0, Y: 0}, {X: 4, Y: 0}, {X: 0, Y: 3}},
		Faces: []api.Face{{A: 0, B: 1, C: 2}},
		Sides: []api.Side{{A: 0, B: 1, Fixed: true}, {A: 1, B: 2, Press: "1", Shear: "1/2", LivePress: "2", LiveShear: "-1"}},
	}
}

// TestLowerByHand: P4.2, some rows that were reckoned by hand.
func TestLowerByHand(t *testing.T) {
	rows, goal, e := limit.Lower(corner())
	equal(t, "error", e, api.OK)
	equal(t, "goal", goal, []api.Term{{Name: "load", Coef: "1"}})
	equal(t, "rows", len(rows), 2*6+36)
	// the slope: dx -4, dy 3; Press 1 and Shear 1/2 come to -5 and -5/2, LivePress 2 and LiveShear -1 to -2 and -11
	equal(t, "the slope", printed(t, rows[:6]), ""+
		"2 load 4 t-00 3 x-00 <= -5\n-2 load -4 t-00 -3 x-00 <= 5\n"+
		"11 load 3 t-00 4 y-00 <= -5/2\n-11 load -3 t-00 -4 y-00 <= 5/2\n"+
		"11 load 3 t-00 4 y-00 <= -53/2\n-11 load -3 t-00 -4 y-00 <= 53/2\n")
	// the free side: dx 0, dy -3
	equal(t, "the free side", printed(t, rows[6:12]), ""+
		"-3 x-00 <= 0\n3 x-00 <= 0\n-3 t-00 <= 0\n3 t-00 <= 0\n-3 t-00 <= 0\n3 t-00 <= 0\n")
	// the first direction: n is (3/5, 1/5), q is 3/5, q * Sin is 9/25
	equal(t, "at A", printed(t, rows[12:13]), "2/5 t-00 24/25 x-00 -6/25 y-00 <= 24/5\n")
	equal(t, "at B", printed(t, rows[24:25]), "2/5 t-00 24/25 x-00 -6/25 y-00 <= 24/5\n")
	equal(t, "at C", printed(t, rows[36:37]), "2/5 t-00 24/25 x-00 -6/25 y-00 <= 156/25\n")
	// the second one: n is (1/5, 1/5), q is 7/25, q * Sin is 21/125
	equal(t, "at C", printed(t, rows[37:38]), "2/5 t-00 46/125 x-00 -4/125 y-00 <= 304/125\n")
	// the last one: n is (3/5, -1/5), q is 3/5
	equal(t, "at A", printed(t, rows[23:24]), "-2/5 t-00 24/25 x-00 -6/25 y-00 <= 24/5\n")
}

// TestUpperByHand: P4.2, rows that were reckoned by hand.
func TestUpperByHand(t *testing.T) {
	for sense, bounds := range map[int]string{1: "-2 u-00 -11 w-00 <= 1\n2 u-00 11 w-00 <= -1\n", -1: "-2 u-00 -11 w-00 <= -1\n2 u-00 11 w-00 <= 1\n"} {
		rows, goal, e := limit.Upper(corner(), sense)
		equal(t, "error", e, api.OK)
		equal(t, "rows", printed(t, rows), "-1 s-00 -4 u-00 <= 0\n-1 s-00 4 u-00 <= 0\n-3/4 s-00 4 w-00 <= 0\n3/4 s-00 -4 w-00 <= 0\n"+bounds)
		// the weight of 6 is 12; of the loads there are -5 and -5/2
		equal(t, "goal", goal, []api.Term{{Name: "s-00", Coef: "-5"}, {Name: "u-00", Coef: "-5"}, {Name: "w-00", Coef: "-29/2"}})
	}
}

// TestProgramsOfLittle: P4.2, what has no terms.
func TestProgramsOfLittle(t *testing.T) {
	m := example()
	m.Sides, m.Soils[0].Cohesion = nil, "0"
	rows, goal, e := limit.Lower(m)
	equal(t, "no sides", []any{len(rows), goal, e}, []any{5*6 + 72, []api.Term{{Name: "load", Coef: "1"}}, api.OK})
	names, _ := exact.Names(rows)
	equal(t, "no load", names, []string{"t-00", "t-01", "x-00", "x-01", "y-00", "y-01"})
	rows, goal, e = limit.Upper(m, -1)
	equal(t, "no work", []any{len(rows), len(goal), e}, []any{6, 0, api.OK})
	equal(t, "no work", printed(t, rows[4:]), "<= -1\n<= 1\n")
	m.Faces = m.Faces[:1]
	rows, _, e = limit.Upper(m, 1)
	equal(t, "nothing slides", e, api.OK)
	equal(t, "nothing slides", printed(t, rows), "<= 1\n<= -1\n")
	m.Sides = []api.Side{{A: 0, B: 1, Fixed: true}, {A: 1, B: 2, Fixed: true}, {A: 2, B: 0, Fixed: true}}
	rows, _, e = limit.Lower(m)
	equal(t, "all fixed", []any{len(rows), e}, []any{36, api.OK})
}

// TestLargestPrograms: P4.2 and R7, a mesh as large as may be has programs.
func TestLargestPrograms(t *testing.T) {
	for what, m := range map[string]api.Mesh{"apart": apart(t), "comb": comb()} {
		if what == "comb" {
			for _, j := range jointsOf(m) {
				if j.Right < 0 {
					m.Sides = append(m.Sides, api.Side{A: j.A, B: j.B, Fixed: true})
				}
			}
		}
		rows, goal, e := limit.Lower(m)
		equal(t, what, e, api.OK)
		wantRows, wantGoal := lowerOf(m)
		compare(t, what, rows, goal, wantRows, wantGoal)
		rows, goal, e = limit.Upper(m, 1)
		equal(t, what, e, api.OK)
		wantRows, wantGoal = upperOf(m, 1)
		compare(t, what, rows, goal, wantRows, wantGoal)
	}
}

// TestProgramErrors: P4.2, the errors, in their order.
func TestProgramErrors(t *testing.T) {
	for _, c := range wrongs {
		m := example()
		c.change(&m)
		rows, goal, e := limit.Lower(m)
		equal(t, c.what, said(rows, goal, e), said([]api.Row(nil), []api.Term(nil), c.want))
		rows, goal, e = limit.Upper(m, 7)
		equal(t, c.what, said(rows, goal, e), said([]api.Row(nil), []api.Term(nil), c.want))
	}
	for _, sense := range []int{0, 2, -2, 1 << 62, -1 << 63} {
		rows, goal, e := limit.Upper(example(), sense)
		equal(t, "sense", said(rows, goal, e), said([]api.Row(nil), []api.Term(nil), api.ErrArg))
		_, _, e = limit.Upper(longGoal("9941"), sense)
		equal(t, "sense ahead of the limit", e, api.ErrArg)
	}
}

// longGoal is a triangle whose loads make a goal of the upper program with the denominator 9973 * 9967 * last.
func longGoal(last string) api.Mesh {
	m := corner()
	m.Soils[0].Weight = "0"
	m.Sides = []api.Side{
		{A: 0, B: 1, Shear: "1/9973"},
		{A: 1, B: 2, Press: "1/9967", LivePress: "1"},
		{A: 2, B: 0, Press: api.Frac("1/" + last)},
	}
	return m
}

// longWork is a triangle whose live loads make a row of the upper program with such a denominator.
func longWork(last string) api.Mesh {
	m := longGoal(last)
	for i, s := range m.Sides {
		m.Sides[i] = api.Side{A: s.A, B: s.B, LivePress: s.Press, LiveShear: s.Shear}
	}
	return m
}

// longest is how many digits the numbers of a program have at most, above or below.
func longest(rows []api.Row, goal []api.Term) int {
	most := 0
	look := func(a api.Frac) {
		above, below, _ := strings.Cut(strings.TrimPrefix(string(a), "-"), "/")
		most = max(most, len(above), len(below))
	}
	for _, row := range append(rows, api.Row{Terms: goal, Bound: "0"}) {
		for _, term := range row.Terms {
			look(term.Coef)
		}
		look(row.Bound)
	}
	return most
}

// long makes a number of four digits, or of less.
func long(r *rand.Rand) api.Frac {
	top := int64(1 + r.Intn([]int{9, 99, 999, 9999}[r.Intn(4)]))
	return frac(big.NewRat(top, int64(1+r.Intn([]int{1, 9, 99, 999, 9999}[r.Intn(5)]))))
}

// TestProgramLimits: P4.2, ErrLimit for a number with more than 12 digits, and R7, not for one with 12.
func TestProgramLimits(t *testing.T) {
	look := func(what string, m api.Mesh, lower, upper api.Errno) {
		t.Helper()
		equal(t, what+": Check", limit.Check(m), api.OK)
		rows, goal, e := limit.Lower(m)
		equal(t, what+": Lower", e, lower)
		if e != api.OK {
			equal(t, what+": Lower", len(rows)+len(goal), 0)
		}
		for _, sense := range []int{1, -1} {
			rows, goal, e = limit.Upper(m, sense)
			equal(t, what+": Upper", e, upper)
			if e != api.OK {
				equal(t, what+": Upper", len(rows)+len(goal), 0)
			}
		}
	}
	look("a goal with 12 digits", longGoal("9949"), api.OK, api.OK)
	look("a goal with 11 digits", longGoal("997"), api.OK, api.OK)
	m := longGoal("9949") // two of these at one triangle are too long
	m.Sides[1].Press, m.Sides[1].Shear = "1/9967", "1/9941"
	look("a goal with 16 digits", m, api.OK, api.ErrLimit)
	look("a row with 12 digits", longWork("9949"), api.OK, api.OK)
	m = longWork("9949")
	m.Sides[1].LivePress, m.Sides[1].LiveShear = "1/9967", "1/9941"
	look("a row with 16 digits", m, api.OK, api.ErrLimit)
	m = example()
	m.Soils = append(m.Soils, m.Soils[0])
	m.Faces[1].Soil, m.Soils[0].Weight = 1, "9999/9998"
	m.Spots = []api.Spot{{X: -1000, Y: -999}, {X: 999, Y: -999}, {X: 999, Y: 1000}, {X: -1000, Y: 1000}}
	look("weights", m, api.OK, api.OK)
	m.Soils[1].Weight = "9998/9997"
	m.Sides = nil
	look("a bound of two weights", m, api.OK, api.OK)
	m.Soils[1].Weight = "1/9997"
	look("two weights that are too far from each other", m, api.ErrLimit, api.OK)
}

// TestProgramDigits: P4.2 and R7, 12 digits are allowed, and 13 are not, wherever they are.
func TestProgramDigits(t *testing.T) {
	r := rand.New(rand.NewSource(12))
	found := map[string]map[int]int{"lower": {}, "upper": {}}
	look := func(what string, wantRows []api.Row, wantGoal []api.Term, rows []api.Row, goal []api.Term, e api.Errno) {
		t.Helper()
		digits := longest(wantRows, wantGoal)
		found[what][digits]++
		if digits > api.MaxInput {
			equal(t, what, said(rows, goal, e), said([]api.Row(nil), []api.Term(nil), api.ErrLimit))
			return
		}
		equal(t, what, e, api.OK)
		compare(t, what, rows, goal, wantRows, wantGoal)
	}
	for range 300 {
		m := corner()
		m.Spots[1].X, m.Spots[2].Y = 1+r.Intn(1000), 1+r.Intn(1000)
		m.Soils[0].Cohesion, m.Soils[0].Weight = long(r), long(r)
		if r.Intn(2) == 0 {
			m.Soils[0].Sin, m.Soils[0].Cos = "6552/9577", "6985/9577"
		}
		m.Sides[1] = api.Side{A: 1, B: 2, Press: long(r), LivePress: long(r)}
		if r.Intn(2) == 0 {
			m.Sides[1].Shear, m.Sides[1].LiveShear = long(r), long(r)
			m.Sides = append(m.Sides, api.Side{A: 2, B: 0, LiveShear: long(r)})
		}
		wantRows, wantGoal := lowerOf(m)
		rows, goal, e := limit.Lower(m)
		look("lower", wantRows, wantGoal, rows, goal, e)
		wantRows, wantGoal = upperOf(m, -1)
		rows, goal, e = limit.Upper(m, -1)
		look("upper", wantRows, wantGoal, rows, goal, e)
	}
	for what, l := range found {
		if l[12] < 3 || l[13] < 3 {
			t.Error("too few:", what, l)
		}
	}
}
