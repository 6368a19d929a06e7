package water_test

import (
	"fmt"
	"math/big"
	"math/rand"
	"slices"
	"testing"

	"underpin/api"
	"underpin/exact"
	"underpin/water"
)

// rows returns the rows that a text says.
func rows(t testing.TB, text string) []api.Row {
	t.Helper()
	l, line, e := exact.Parse(text)
	if e != api.OK {
		t.Fatal(text, line, e)
	}
	return l
}

// withMore is a net at whose nodes so much more is taken out.
func withMore(n api.Net, node int, more *big.Rat) api.Net {
	n.Wells = slices.Clone(n.Wells)
	for i, well := range n.Wells {
		if well.Node == node {
			n.Wells[i].Value = frac(new(big.Rat).Add(rat(well.Value), more))
			return n
		}
	}
	n.Wells = append(n.Wells, api.Level{Node: node, Value: frac(more)})
	return n
}

// free returns some of the nodes without a fixed head, increasing.
func free(r *rand.Rand, n api.Net) []int {
	var l []int
	for k := range n.Nodes {
		if !slices.ContainsFunc(n.Heads, func(h api.Level) bool { return h.Node == k }) && r.Intn(3) > 0 {
			l = append(l, k)
		}
	}
	return l
}

// planOf is the plan of wells and limits, by the words of the chapter: 1 more is taken out at each well, and the heads
// are compared.
func planOf(n api.Net, cond []api.Frac, wells []int, limits []api.Level) (l []api.Row, goal []api.Term) {
	heads := headsOf(n, cond)
	var lowered [][]api.Frac
	for _, k := range wells {
		name := fmt.Sprintf("q-%02d", k)
		l = append(l, api.Row{Terms: []api.Term{{Name: name, Coef: "-1"}}, Bound: "0"})
		goal = append(goal, api.Term{Name: name, Coef: "-1"})
		lowered = append(lowered, headsOf(withMore(n, k, big.NewRat(1, 1)), cond))
	}
	for _, limit := range limits {
		row := api.Row{Bound: frac(new(big.Rat).Sub(rat(limit.Value), rat(heads[limit.Node])))}
		for i, k := range wells {
			if rise := new(big.Rat).Sub(rat(lowered[i][limit.Node]), rat(heads[limit.Node])); rise.Sign() != 0 {
				row.Terms = append(row.Terms, api.Term{Name: fmt.Sprintf("q-%02d", k), Coef: frac(rise)})
			}
		}
		l = append(l, row)
	}
	return l, goal
}

// TestPlan: P3.6.
func TestPlan(t *testing.T) {
	l, goal, e := water.Plan(example(), numbers("2 1"), []int{1}, []api.Level{{Node: 1, Value: "2"}})
	equal(t, "the example", []any{l, goal, e}, []any{rows(t, "-1 q-01 <= 0\n-1/3 q-01 <= -1\n"), []api.Term{{Name: "q-01", Coef: "-1"}}, api.OK})
	l, goal, e = water.Plan(example(), numbers("2 1"), nil, nil)
	equal(t, "nothing", []any{len(l), len(goal), e}, []any{0, 0, api.OK})
	l, goal, e = water.Plan(example(), numbers("2 1"), []int{}, []api.Level{{Node: 2, Value: "5"}, {Node: 1, Value: "5"}, {Node: 0, Value: "5"}})
	equal(t, "no wells", []any{said(l), len(goal), e}, []any{said(rows(t, "<= -4\n<= 2\n<= 5\n")), 0, api.OK})
	r := rand.New(rand.NewSource(30))
	full, cut := 0, 0
	for range 200 {
		n := randomNet(r, 14, 2)
		cond := anyCond(r, n)
		wells := free(r, n)
		var limits []api.Level
		for _, k := range r.Perm(len(n.Nodes))[:r.Intn(len(n.Nodes)+1)] {
			limits = append(limits, api.Level{Node: k, Value: frac(big.NewRat(int64(r.Intn(40)-20), 3))})
		}
		wantRows, wantGoal := planOf(n, cond, wells, limits)
		l, goal, e := water.Plan(n, cond, wells, limits)
		if exact.Check(wantRows) != api.OK {
			equal(t, "too long", []any{len(l), len(goal), e}, []any{0, 0, api.ErrLimit})
			cut++
			continue
		}
		equal(t, "error", e, api.OK)
		equal(t, "rows of "+said(n), said(l), said(wantRows))
		equal(t, "goal of "+said(n), said(goal), said(wantGoal))
		if len(wells) > 2 && len(limits) > 2 {
			full++
		}
	}
	if full < 40 || cut > 100 {
		t.Error("too few:", full, cut)
	}
}

// TestPlanErrors: P3.6, in their order.
func TestPlanErrors(t *testing.T) {
	n := example()
	n.Nodes = append(n.Nodes, "by")
	n.Pipes = append(n.Pipes, pipe("c", 1, 3, "1", "1"))
	cond := numbers("2 1 1")
	level := func(node int, value api.Frac) api.Level { return api.Level{Node: node, Value: value} }
	for _, c := range []struct {
		what   string
		wells  []int
		limits []api.Level
		want   api.Errno
	}{
		{"25 wells", slices.Repeat([]int{-1}, 25), nil, api.ErrLimit},
		{"25 limits, and no such well", []int{-1}, make([]api.Level, 25), api.ErrLimit},
		{"24 wells", slices.Repeat([]int{-1}, 24), make([]api.Level, 24), api.ErrNone},
		{"no well -1", []int{1, -1}, nil, api.ErrNone},
		{"no well 4", []int{1, 4}, nil, api.ErrNone},
		{"a far well", []int{1 << 62}, nil, api.ErrNone},
		{"a fixed head", []int{0, 9}, nil, api.ErrClash},
		{"a fixed head, not in order", []int{3, 2}, nil, api.ErrClash},
		{"twice", []int{1, 1}, []api.Level{level(9, "")}, api.ErrArg},
		{"falling", []int{3, 1}, []api.Level{level(9, "")}, api.ErrArg},
		{"falling, then a fixed head", []int{3, 1, 0}, nil, api.ErrArg},
		{"no limit at -1", []int{1, 3}, []api.Level{level(0, "1"), level(-1, "x")}, api.ErrNone},
		{"no limit at 4", nil, []api.Level{level(4, "x")}, api.ErrNone},
		{"a limit twice", nil, []api.Level{level(0, "1"), level(2, "1"), level(0, "x")}, api.ErrTwice},
		{"a limit that is no number", nil, []api.Level{level(0, "1.5"), level(9, "")}, api.ErrForm},
		{"a limit that is too long", nil, []api.Level{level(0, api.Frac(over12)), level(2, "x")}, api.ErrLimit},
		{"all may be", []int{1, 3}, []api.Level{level(3, "1"), level(0, "-1"), level(1, "0"), level(2, "1/7")}, api.OK},
		{"24 wells and limits are too many for this net", []int{1, 3}, slices.Repeat([]api.Level{level(1, "1")}, 24), api.ErrTwice},
	} {
		l, goal, e := water.Plan(n, cond, c.wells, c.limits)
		equal(t, c.what, e, c.want)
		alone(t, "Plan", e, l, goal)
		answer, e := water.Dewater(n, cond, c.wells, c.limits)
		equal(t, c.what, e, c.want)
		alone(t, "Dewater", e, answer)
	}
	for _, c := range badNumbers {
		_, _, e := water.Plan(n, cond, nil, []api.Level{{Value: c.number}})
		equal(t, fmt.Sprintf("%.20s", c.number), e, c.want)
	}
	long := example()
	long.Heads[1].Value = "1/999999999989"
	l, goal, e := water.Plan(long, numbers("1 1"), nil, []api.Level{level(0, "1/999999999961")})
	equal(t, "a Bound that is short", []any{len(l), len(goal), e}, []any{1, 0, api.OK})
	l, goal, e = water.Plan(long, numbers("1 1"), nil, []api.Level{level(2, "1/999999999961")})
	equal(t, "a Bound that is too long", []any{len(l), len(goal), e}, []any{0, 0, api.ErrLimit})
	l, goal, e = water.Plan(example(), numbers("1/999999999989 999999999961/999999999988"), []int{1}, []api.Level{level(0, "1")})
	equal(t, "a long fall that is not asked for", []any{len(l), len(goal), e}, []any{2, 1, api.OK})
	l, goal, e = water.Plan(example(), numbers("1/999999999989 999999999961/999999999988"), []int{1}, []api.Level{level(1, "1")})
	equal(t, "a Coef that is too long", []any{len(l), len(goal), e}, []any{0, 0, api.ErrLimit})
}

// TestPlanOfAll: P3.6 and R7, as many wells and limits as may be.
func TestPlanOfAll(t *testing.T) {
	n := ladder(22, 0)
	cond := slices.Repeat(numbers("1"), len(n.Pipes))
	var wells []int
	limits := []api.Level{{Node: 0, Value: "10"}, {Node: 1, Value: "0"}}
	for k := 2; k < 24; k++ {
		wells, limits = append(wells, k), append(limits, api.Level{Node: k, Value: "20"})
	}
	wantRows, wantGoal := planOf(n, cond, wells[:3], limits)
	l, goal, e := water.Plan(n, cond, wells[:3], limits[:3])
	equal(t, "error", e, api.OK)
	equal(t, "some", []any{said(l), said(goal)}, []any{said(wantRows[:6]), said(wantGoal)})
	l, goal, e = water.Plan(n, cond, wells, limits[:2])
	equal(t, "22 wells", []any{len(l), len(goal), e}, []any{24, 22, api.OK})
}

// TestDewater: P3.6 and P3.7, an answer holds, the limits are kept, and no lesser amount keeps them.
func TestDewater(t *testing.T) {
	answer, e := water.Dewater(example(), numbers("2 1"), []int{1}, []api.Level{{Node: 1, Value: "2"}})
	equal(t, "the example", []any{answer.Kind, answer.Value, e}, []any{api.AnBest, api.Frac("-3"), api.OK})
	answer, e = water.Dewater(example(), numbers("2 1"), nil, []api.Level{{Node: 1, Value: "2"}})
	equal(t, "no wells", []any{answer.Kind, e}, []any{api.AnEmpty, api.OK})
	answer, e = water.Dewater(example(), numbers("2 1"), []int{1}, []api.Level{{Node: 2, Value: "8"}})
	equal(t, "a fixed head stays", []any{answer.Kind, e}, []any{api.AnEmpty, api.OK})
	answer, e = water.Dewater(example(), numbers("2 1"), []int{1}, []api.Level{{Node: 1, Value: "5"}})
	equal(t, "nothing to do", []any{answer.Kind, answer.Value, e}, []any{api.AnBest, api.Frac("0"), api.OK})
	r := rand.New(rand.NewSource(31))
	kinds := map[api.AnswerKind]int{}
	for range 200 {
		n := randomNet(r, 6, 2)
		cond, wells := anyCond(r, n), free(r, n)
		heads := headsOf(n, cond)
		var limits []api.Level
		for _, k := range r.Perm(len(n.Nodes))[:r.Intn(len(n.Nodes)+1)] {
			drop := big.NewRat(int64(r.Intn(12)-3), 3)
			limits = append(limits, api.Level{Node: k, Value: frac(drop.Sub(rat(heads[k]), drop))})
		}
		l, goal, e := water.Plan(n, cond, wells, limits)
		answer, f := water.Dewater(n, cond, wells, limits)
		equal(t, "error", []any{e, f}, []any{api.OK, api.OK})
		equal(t, "holds", exact.Verify(l, goal, answer), api.OK)
		kinds[answer.Kind]++
		if answer.Kind != api.AnBest {
			equal(t, "never free", answer.Kind, api.AnEmpty)
			continue
		}
		total := new(big.Rat)
		for _, v := range answer.Point {
			var k int
			fmt.Sscanf(v.Name, "q-%d", &k)
			n = withMore(n, k, rat(v.Value))
			total.Add(total, rat(v.Value))
		}
		equal(t, "the amount", frac(total.Neg(total)), answer.Value)
		heads = headsOf(n, cond)
		for _, limit := range limits {
			if compared(heads[limit.Node], limit.Value) > 0 {
				t.Fatal("not kept:", said(n), limit, heads)
			}
		}
	}
	if kinds[api.AnBest] < 50 || kinds[api.AnEmpty] < 20 {
		t.Error("too few:", kinds)
	}
}
