package water_test

import (
	"fmt"
	"math/big"
	"math/rand"
	"strings"
	"testing"

	"underpin/api"
	"underpin/exact"
	"underpin/water"
)

// aboveOf is what Above is to return, by the words of the chapter.
func aboveOf(n api.Net, heads []api.Frac) *big.Rat {
	sum := new(big.Rat)
	for _, p := range n.Pipes {
		drop := rat(dropOf(p, heads))
		sum.Add(sum, new(big.Rat).Mul(rat(p.High), drop.Mul(drop, drop)))
	}
	return sum
}

// belowOf is what Below is to return, by the words of the chapter.
func belowOf(n api.Net, flows []api.Frac) *big.Rat {
	sum := new(big.Rat)
	for i, p := range n.Pipes {
		square := new(big.Rat).Mul(rat(flows[i]), rat(flows[i]))
		sum.Add(sum, square.Quo(square, rat(p.Low)))
	}
	return sum.Inv(sum)
}

// unitFlowOf returns flows that lead 1 from a to b along the pipes, by heads of the net with these conductances.
func unitFlowOf(n api.Net, cond []api.Frac, a, b int) []api.Frac {
	whole, heads := wholeOf(n, cond, a, b)
	var flows []api.Frac
	for i, p := range n.Pipes {
		flow := flowOf(p, cond[i], heads)
		flows = append(flows, frac(flow.Quo(flow, rat(whole))))
	}
	return flows
}

// withoutHeads is the example with a fixed head far from a and b, which do not matter here.
func withoutHeads() api.Net {
	n := example()
	n.Nodes = append(n.Nodes, "far", "near")
	n.Pipes = append(n.Pipes, pipe("c", 4, 3, "5", "7"))
	n.Heads = []api.Level{{Node: 1, Value: "100"}, {Node: 3, Value: "-100"}}
	n.Wells = []api.Level{{Node: 2, Value: "50"}, {Node: 4, Value: "7"}}
	return n
}

// TestWhole: P3.5.
func TestWhole(t *testing.T) {
	whole, e := water.Whole(example(), numbers("2 1"), 0, 2)
	equal(t, "the example", []any{whole, e}, []any{api.Frac("2/3"), api.OK})
	whole, e = water.Whole(example(), numbers("2 1"), 1, 2)
	equal(t, "one pipe", []any{whole, e}, []any{api.Frac("1"), api.OK})
	for _, ends := range [][2]int{{0, 2}, {2, 0}} {
		whole, e = water.Whole(withoutHeads(), numbers("2 1 9"), ends[0], ends[1])
		equal(t, "fixed heads and wells do not matter", []any{whole, e}, []any{api.Frac("2/3"), api.OK})
	}
	n := example()
	n.Pipes = append(n.Pipes, pipe("c", 2, 0, "1", "1"), pipe("d", 0, 2, "1", "1"))
	whole, e = water.Whole(n, numbers("2 1 1/3 5"), 0, 2)
	equal(t, "beside each other", []any{whole, e}, []any{api.Frac("6"), api.OK})
	r := rand.New(rand.NewSource(20))
	seen := 0
	for range 300 {
		n := randomNet(r, 8, 2)
		cond := anyCond(r, n)
		a, b := r.Intn(len(n.Nodes)), r.Intn(len(n.Nodes))
		whole, e := water.Whole(n, cond, a, b)
		switch {
		case a == b:
			equal(t, "the same", []any{whole, e}, []any{api.Frac(""), api.ErrArg})
		case !joinedTo(n, a)[b]:
			equal(t, "not joined", []any{whole, e}, []any{api.Frac(""), api.ErrScope})
		default:
			want, _ := wholeOf(n, cond, a, b)
			equal(t, "whole of "+said(n), []any{whole, e}, []any{want, api.OK})
			seen++
		}
	}
	if seen < 100 {
		t.Error("too few:", seen)
	}
}

// TestEnds: P3.5, the errors of the nodes, which come behind those of the net, and of conductances.
func TestEnds(t *testing.T) {
	n := withoutHeads()
	wrong := example()
	wrong.Nodes[0] = "B"
	for _, c := range []struct {
		a, b int
		want api.Errno
	}{
		{-1, 0, api.ErrNone}, {0, -1, api.ErrNone}, {5, 0, api.ErrNone}, {0, 5, api.ErrNone}, {9, 9, api.ErrNone}, {1 << 62, -1 << 63, api.ErrNone},
		{0, 0, api.ErrArg}, {4, 4, api.ErrArg},
		{0, 3, api.ErrScope}, {4, 2, api.ErrScope},
	} {
		for what, call := range map[string]func(n api.Net) (api.Frac, api.Errno){
			"Whole": func(n api.Net) (api.Frac, api.Errno) {
				return water.Whole(n, numbers("2 1 1")[:len(n.Pipes)], c.a, c.b)
			},
			"Above": func(n api.Net) (api.Frac, api.Errno) { return water.Above(n, c.a, c.b, numbers("x")) },
			"Below": func(n api.Net) (api.Frac, api.Errno) { return water.Below(n, c.a, c.b, numbers("x")) },
		} {
			a, e := call(n)
			equal(t, said(what, c), []any{a, e}, []any{api.Frac(""), c.want})
			a, e = call(wrong)
			equal(t, "the net's error first", []any{a, e}, []any{api.Frac(""), api.ErrName})
		}
	}
	whole, e := water.Whole(n, numbers("2 1"), 9, 9)
	equal(t, "conductances first", []any{whole, e}, []any{api.Frac(""), api.ErrArg})
	whole, e = water.Whole(n, numbers("2 1 x"), 9, 9)
	equal(t, "conductances first", []any{whole, e}, []any{api.Frac(""), api.ErrForm})
}

// TestAbove: P3.5.
func TestAbove(t *testing.T) {
	for _, c := range []struct {
		a, b  int
		heads []api.Frac
		want  api.Frac
		e     api.Errno
	}{
		{0, 2, numbers("1 1/3 0"), "1", api.OK},
		{2, 0, numbers("0 1/3 1"), "2/3", api.OK},
		{0, 2, numbers("1 0 0"), "2", api.OK},
		{0, 2, numbers("1 -2 0"), "22", api.OK},
		{0, 1, numbers("1 0 7"), "51", api.OK},
		{0, 2, nil, "", api.ErrArg},
		{0, 2, numbers("x 0"), "", api.ErrArg},
		{0, 2, numbers("1 0 0 0"), "", api.ErrArg},
		{0, 2, numbers("2 x 0"), "", api.ErrForm},
		{0, 2, numbers("2 0 00"), "", api.ErrForm},
		{0, 2, []api.Frac{"1", "", "0"}, "", api.ErrForm},
		{0, 2, []api.Frac{"2", api.Frac(most + "0"), "0"}, "", api.ErrForm},
		{0, 2, numbers("2 1/3 0"), "", api.ErrState},
		{0, 2, numbers("1 1/3 1/9"), "", api.ErrState},
		{0, 2, numbers("0 1/3 1"), "", api.ErrState},
		{0, 2, []api.Frac{"2", api.Frac(most), "0"}, "", api.ErrState},
	} {
		above, e := water.Above(example(), c.a, c.b, c.heads)
		equal(t, fmt.Sprintf("%.40q", c.heads), []any{above, e}, []any{c.want, c.e})
	}
	above, e := water.Above(withoutHeads(), 0, 2, numbers("1 1/3 0 2 3"))
	equal(t, "all pipes count", []any{above, e}, []any{api.Frac("8"), api.OK})
}

// TestBelow: P3.5.
func TestBelow(t *testing.T) {
	for _, c := range []struct {
		a, b  int
		flows []api.Frac
		want  api.Frac
		e     api.Errno
	}{
		{0, 2, numbers("1 1"), "1/2", api.OK},
		{2, 0, numbers("-1 -1"), "1/2", api.OK},
		{1, 2, numbers("0 1"), "1", api.OK},
		{0, 2, nil, "", api.ErrArg},
		{0, 2, numbers("x"), "", api.ErrArg},
		{0, 2, numbers("1 1 1"), "", api.ErrArg},
		{0, 2, numbers("7 x"), "", api.ErrForm},
		{0, 2, []api.Frac{"7", ""}, "", api.ErrForm},
		{0, 2, numbers("2/2 1"), "", api.ErrForm},
		{0, 2, numbers("-1 -1"), "", api.ErrState},
		{0, 2, numbers("1 0"), "", api.ErrState},
		{0, 2, numbers("0 0"), "", api.ErrState},
		{0, 2, numbers("2 2"), "", api.ErrState},
		{0, 2, numbers("1 2"), "", api.ErrState},
		{0, 2, numbers("1/2 1"), "", api.ErrState},
		{0, 2, []api.Frac{api.Frac(most), api.Frac("1/" + most)}, "", api.ErrState},
	} {
		below, e := water.Below(example(), c.a, c.b, c.flows)
		equal(t, fmt.Sprintf("%.40q", c.flows), []any{below, e}, []any{c.want, c.e})
	}
	n := example()
	n.Pipes = append(n.Pipes, pipe("c", 2, 0, "3", "4"))
	below, e := water.Below(n, 0, 2, numbers("1/4 1/4 -3/4"))
	equal(t, "two ways", []any{below, e}, []any{api.Frac("16/5"), api.OK})
	below, e = water.Below(n, 0, 2, numbers("2 2 1"))
	equal(t, "a ring", []any{below, e}, []any{api.Frac("3/25"), api.OK})
	below, e = water.Below(n, 0, 2, numbers("1/4 1/4 3/4"))
	equal(t, "the other way", []any{below, e}, []any{api.Frac(""), api.ErrState})
	below, e = water.Below(withoutHeads(), 0, 2, numbers("1 1 0"))
	equal(t, "apart", []any{below, e}, []any{api.Frac("1/2"), api.OK})
	below, e = water.Below(withoutHeads(), 0, 2, numbers("1 1 1"))
	equal(t, "apart, not balanced", []any{below, e}, []any{api.Frac(""), api.ErrState})
}

// TestWholeBetween: P3.5, P3.7 and P0.2, what any heads and any flows prove.
func TestWholeBetween(t *testing.T) {
	r := rand.New(rand.NewSource(21))
	seen := 0
	for range 200 {
		n := randomNet(r, 7, 4)
		a, b := r.Intn(len(n.Nodes)), r.Intn(len(n.Nodes))
		if a == b || !joinedTo(n, a)[b] {
			continue
		}
		seen++
		var highs, lows, heads []api.Frac
		for _, p := range n.Pipes {
			highs, lows = append(highs, p.High), append(lows, p.Low)
		}
		most, best := wholeOf(n, highs, a, b)
		above, e := water.Above(n, a, b, best)
		equal(t, "the best heads", []any{above, e}, []any{most, api.OK})
		least, _ := wholeOf(n, lows, a, b)
		below, e := water.Below(n, a, b, unitFlowOf(n, lows, a, b))
		equal(t, "the best flows", []any{below, e}, []any{least, api.OK})

		for range n.Nodes {
			heads = append(heads, frac(big.NewRat(int64(r.Intn(9)-2), 5)))
		}
		heads[a], heads[b] = "1", "0"
		above, e = water.Above(n, a, b, heads)
		equal(t, "above", []any{above, e}, []any{frac(aboveOf(n, heads)), api.OK})
		flows := unitFlowOf(n, anyCond(r, n), a, b)
		below, e = water.Below(n, a, b, flows)
		equal(t, "below", []any{below, e}, []any{frac(belowOf(n, flows)), api.OK})
		for range 5 {
			whole, e := water.Whole(n, within(r, n), a, b)
			equal(t, "whole of "+said(n), []any{between(below, whole, above), e}, []any{true, api.OK})
		}
	}
	if seen < 60 {
		t.Error("too few:", seen)
	}
}

// TestWholeLaws: P3.7, the conductance of the whole does not fall if one grows, is the same the other way, and grows
// with all of them.
func TestWholeLaws(t *testing.T) {
	r := rand.New(rand.NewSource(22))
	grown := 0
	for range 200 {
		n := randomNet(r, 7, 0)
		a, b := r.Intn(len(n.Nodes)), r.Intn(len(n.Nodes))
		if a == b || !joinedTo(n, a)[b] {
			continue
		}
		cond := anyCond(r, n)
		whole, e := water.Whole(n, cond, a, b)
		back, f := water.Whole(n, cond, b, a)
		equal(t, "the other way", []any{whole, e, f}, []any{back, api.OK, api.OK})
		var times []api.Frac
		for _, c := range cond {
			product, _ := exact.Mul(c, "7/3")
			times = append(times, product)
		}
		more, e := water.Whole(n, times, a, b)
		want, _ := exact.Mul(whole, "7/3")
		equal(t, "as many times greater", []any{more, e}, []any{want, api.OK})
		k := r.Intn(len(cond))
		cond[k], _ = exact.Add(cond[k], "1/2")
		more, e = water.Whole(n, cond, a, b)
		equal(t, "error", e, api.OK)
		if compared(more, whole) < 0 {
			t.Fatal("fallen:", said(n), cond, a, b)
		} else if compared(more, whole) > 0 {
			grown++
		}
	}
	if grown < 40 {
		t.Error("too few:", grown)
	}
}

// tenTo is 1 with zeros behind it.
func tenTo(n int) api.Frac {
	return api.Frac("1" + strings.Repeat("0", n))
}

// TestAboveBelowLimit: P3.5, ErrLimit comes last, if what comes out has too many digits, whatever stands on the way.
func TestAboveBelowLimit(t *testing.T) {
	n := example()
	n.Pipes[0].High = "1"
	above, e := water.Above(n, 0, 2, []api.Frac{"1", tenTo(30000), "0"})
	equal(t, "60000 digits above", []any{above, e}, []any{api.Frac(""), api.ErrLimit})
	above, e = water.Above(n, 0, 2, []api.Frac{"1", "1/" + tenTo(30000), "0"})
	equal(t, "60000 digits below", []any{above, e}, []any{api.Frac(""), api.ErrLimit})
	above, e = water.Above(n, 0, 2, []api.Frac{"1", "-" + tenTo(24999), "0"})
	equal(t, "49999 digits", []any{len(above), e}, []any{49999, api.OK})
	// With the head x there: 1 - 2 x + 2 x^2. For 10^-25000 the denominator is 10^50000 divided by 2.
	x := "1/" + tenTo(25000)
	above, e = water.Above(n, 0, 2, []api.Frac{"1", x, "0"})
	equal(t, "squares are too long, not their sum", []any{above, e}, []any{frac(aboveOf(n, []api.Frac{"1", x, "0"})), api.OK})
	n.Pipes[0].High = "2"
	above, e = water.Above(n, 0, 2, []api.Frac{"1", x, "0"})
	equal(t, "50001 digits below", []any{above, e}, []any{api.Frac(""), api.ErrLimit})

	// Three pipes beside each other.
	n = api.Net{Nodes: []string{"a", "b"}, Heads: []api.Level{{Node: 0, Value: "0"}}}
	n.Pipes = []api.Pipe{pipe("p", 0, 1, "1", "1"), pipe("q", 0, 1, "1", "1"), pipe("r", 1, 0, "1", "1")}
	y, _ := exact.Sub("1", x)
	below, e := water.Below(n, 0, 1, []api.Frac{x, y, "0"})
	equal(t, "squares are too long, not what comes of them", []any{below, e}, []any{frac(belowOf(n, []api.Frac{x, y, "0"})), api.OK})
	below, e = water.Below(n, 0, 1, []api.Frac{"1", tenTo(30000), tenTo(30000)})
	equal(t, "60000 digits", []any{below, e}, []any{api.Frac(""), api.ErrLimit})
	third := "1/" + api.Frac(strings.Repeat("3", 40000))
	sum, _ := exact.Add(third, "1")
	below, e = water.Below(n, 0, 1, []api.Frac{sum, third, api.Frac("2") + third[1:]})
	equal(t, "80000 digits", []any{below, e}, []any{api.Frac(""), api.ErrLimit})
	below, e = water.Below(n, 0, 1, []api.Frac{sum, third, third})
	equal(t, "no unit flow", []any{below, e}, []any{api.Frac(""), api.ErrState})
	// The sum of both denominators' digits is more than numbers may have: still it is seen that the flows are none.
	below, e = water.Below(n, 0, 1, []api.Frac{third, "1/" + tenTo(40000), "0"})
	equal(t, "no unit flow, long", []any{below, e}, []any{api.Frac(""), api.ErrState})
}
