package water_test

import (
	"fmt"
	"math/big"
	"math/rand"
	"slices"
	"testing"

	"underpin/api"
	"underpin/water"
)

// badConds are conductances of the example with an error each, and the error.
var badConds = []struct {
	cond []api.Frac
	want api.Errno
}{
	{nil, api.ErrArg},
	{numbers("2"), api.ErrArg},
	{numbers("2 1 1"), api.ErrArg},
	{numbers("x"), api.ErrArg},
	{numbers("2 x"), api.ErrForm},
	{[]api.Frac{"", "0"}, api.ErrForm},
	{numbers("2/4 1"), api.ErrForm},
	{[]api.Frac{"1", api.Frac(over12)}, api.ErrLimit},
	{[]api.Frac{api.Frac("-" + over12), "x"}, api.ErrLimit},
	{[]api.Frac{"1", api.Frac("1/" + over12)}, api.ErrLimit},
	{numbers("0 1"), api.ErrArg},
	{numbers("1 -1/2"), api.ErrArg},
	{numbers("0 x"), api.ErrArg},
	{numbers("x 0"), api.ErrForm},
}

// TestHeadsFlows: P3.2, by the words of the chapter, and by a way of its own.
func TestHeadsFlows(t *testing.T) {
	heads, e := water.Heads(example(), numbers("2 1"))
	equal(t, "heads", []any{heads, e}, []any{numbers("0 3 9"), api.OK})
	flows, e := water.Flows(example(), numbers("2 1"))
	equal(t, "flows", []any{flows, e}, []any{numbers("-6 -6"), api.OK})
	n := example()
	n.Wells = []api.Level{{Node: 1, Value: "3"}}
	heads, e = water.Heads(n, numbers("2 1"))
	equal(t, "with a well", []any{heads, e}, []any{numbers("0 2 9"), api.OK})
	n.Wells[0].Value = "-3"
	flows, e = water.Flows(n, numbers("2 1"))
	equal(t, "with a well that gives", []any{flows, e}, []any{numbers("-8 -5"), api.OK})
	heads, e = water.Heads(example(), []api.Frac{api.Frac("1/" + most12), api.Frac(most12)})
	equal(t, "beyond Low and High", []any{heads, e}, []any{[]api.Frac{"0", "8999999999982000000000009/999999999998000000000002", "9"}, api.OK})
	r := rand.New(rand.NewSource(2))
	for i := range 300 {
		n := randomNet(r, 10, 3)
		cond := anyCond(r, n)
		heads := mustHeads(t, n, cond)
		equal(t, "heads of "+said(n), heads, headsOf(n, cond))
		equal(t, "by the words", areHeads(n, cond, heads), true)
		flows, e := water.Flows(n, cond)
		equal(t, "error", e, api.OK)
		equal(t, "as many as pipes", len(flows), len(n.Pipes))
		for k, p := range n.Pipes {
			equal(t, fmt.Sprint("flow ", i, k), flows[k], frac(flowOf(p, cond[k], heads)))
		}
	}
}

// TestHeadsOfLargeNets: P3.2, with as many nodes and pipes as may be, and with long numbers.
func TestHeadsOfLargeNets(t *testing.T) {
	r := rand.New(rand.NewSource(3))
	for range 5 {
		n := largest()
		for i := 24; i < 48; i++ {
			n.Pipes[i].To = (n.Pipes[i].From + 1 + r.Intn(23)) % 24
		}
		n.Heads, n.Wells = n.Heads[:1+r.Intn(2)], n.Wells[:r.Intn(12)]
		var cond []api.Frac
		for range n.Pipes {
			cond = append(cond, frac(big.NewRat(1+r.Int63n(999999999999), 1+r.Int63n(999999999999))))
		}
		heads := mustHeads(t, n, cond)
		equal(t, "heads", heads, headsOf(n, cond))
		yes, e := water.Balanced(n, cond, heads)
		equal(t, "balanced", []any{yes, e}, []any{true, api.OK})
	}
}

// TestNoPipes: P3.2, nets of nodes with fixed heads alone.
func TestNoPipes(t *testing.T) {
	n := api.Net{Nodes: []string{"a", "b"}, Heads: []api.Level{{Node: 1, Value: "1/2"}, {Node: 0, Value: "-7"}}}
	heads, e := water.Heads(n, nil)
	equal(t, "heads", []any{heads, e}, []any{numbers("-7 1/2"), api.OK})
	flows, e := water.Flows(n, []api.Frac{})
	equal(t, "flows", []any{len(flows), e}, []any{0, api.OK})
	yes, e := water.Balanced(n, nil, numbers("-7 1/2"))
	equal(t, "balanced", []any{yes, e}, []any{true, api.OK})
	low, high, e := water.Head(n, 1)
	equal(t, "Head", []any{low, high, e}, []any{api.Frac("1/2"), api.Frac("1/2"), api.OK})
}

// TestBalanced: P3.2 and P3.7, the heads are balanced, and no others are.
func TestBalanced(t *testing.T) {
	for _, c := range []struct {
		heads string
		want  bool
	}{
		{"0 3 9", true}, {"0 2 9", false}, {"0 3 8", false}, {"1 3 9", false}, {"0 3 -9", false}, {"0 0 0", false}, {"0 30/7 9", false},
		{"0 " + most + " 9", false}, {"0 1/" + most + " 9", false}, {"1/" + most + " 3 " + most, false},
	} {
		yes, e := water.Balanced(example(), numbers("2 1"), numbers(c.heads))
		equal(t, fmt.Sprintf("%.30s", c.heads), []any{yes, e}, []any{c.want, api.OK})
	}
	r := rand.New(rand.NewSource(4))
	for range 200 {
		n := randomNet(r, 6, 0)
		cond := anyCond(r, n)
		heads := mustHeads(t, n, cond)
		yes, e := water.Balanced(n, cond, heads)
		equal(t, "the heads", []any{yes, e}, []any{true, api.OK})
		other := slices.Clone(heads)
		k := r.Intn(len(other))
		other[k] = frac(new(big.Rat).Add(rat(other[k]), big.NewRat(int64(2*r.Intn(2)-1), int64(1+r.Intn(1000)))))
		yes, e = water.Balanced(n, cond, other)
		equal(t, "others", []any{yes, e, areHeads(n, cond, other)}, []any{false, api.OK, false})
	}
}

// TestBalancedErrors: P3.2, what is wrong with heads.
func TestBalancedErrors(t *testing.T) {
	for _, c := range []struct {
		heads []api.Frac
		want  api.Errno
	}{
		{nil, api.ErrArg},
		{numbers("0 3"), api.ErrArg},
		{numbers("0 3 9 9"), api.ErrArg},
		{numbers("x x"), api.ErrArg},
		{numbers("0 3 09"), api.ErrForm},
		{[]api.Frac{"0", "", "9"}, api.ErrForm},
		{numbers("0 6/2 9"), api.ErrForm},
		{[]api.Frac{"0", api.Frac(most + "0"), "9"}, api.ErrForm},
	} {
		yes, e := water.Balanced(example(), numbers("2 1"), c.heads)
		equal(t, fmt.Sprintf("%.40q", c.heads), []any{yes, e}, []any{false, c.want})
	}
}

// TestConductanceErrors: P3.2, P3.5 and P3.6, Check's error comes first, then the one of conductances.
func TestConductanceErrors(t *testing.T) {
	n := example()
	wrong := api.Net{Nodes: []string{"a"}}
	for _, c := range append(badConds, badConds[0]) {
		for what, call := range map[string]func(n api.Net, cond []api.Frac) api.Errno{
			"Heads": func(n api.Net, cond []api.Frac) api.Errno {
				l, e := water.Heads(n, cond)
				alone(t, "Heads", e, l)
				return e
			},
			"Flows": func(n api.Net, cond []api.Frac) api.Errno {
				l, e := water.Flows(n, cond)
				alone(t, "Flows", e, l)
				return e
			},
			"Balanced": func(n api.Net, cond []api.Frac) api.Errno {
				yes, e := water.Balanced(n, cond, numbers("x"))
				alone(t, "Balanced", e, yes)
				return e
			},
			"Whole": func(n api.Net, cond []api.Frac) api.Errno {
				a, e := water.Whole(n, cond, -1, -1)
				alone(t, "Whole", e, a)
				return e
			},
			"Plan": func(n api.Net, cond []api.Frac) api.Errno {
				rows, goal, e := water.Plan(n, cond, []int{-1}, nil)
				alone(t, "Plan", e, rows, goal)
				return e
			},
			"Dewater": func(n api.Net, cond []api.Frac) api.Errno {
				answer, e := water.Dewater(n, cond, []int{-1}, nil)
				alone(t, "Dewater", e, answer)
				return e
			},
		} {
			equal(t, fmt.Sprintf("%s %.40q", what, c.cond), call(n, c.cond), c.want)
			equal(t, what+" of a net with an error", call(wrong, c.cond), api.ErrScope)
		}
	}
}
