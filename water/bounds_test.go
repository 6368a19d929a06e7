package water_test

import (
	"fmt"
	"math/big"
	"math/rand"
	"testing"

	"underpin/api"
	"underpin/water"
)

// endsOf returns the least and the greatest of a list of numbers.
func endsOf(l []api.Frac) (low, high api.Frac) {
	low, high = l[0], l[0]
	for _, a := range l {
		if compared(a, low) < 0 {
			low = a
		}
		if compared(a, high) > 0 {
			high = a
		}
	}
	return low, high
}

// dropOf is the head of From less that of To.
func dropOf(p api.Pipe, heads []api.Frac) api.Frac {
	return frac(new(big.Rat).Sub(rat(heads[p.From]), rat(heads[p.To])))
}

// TestHead: P3.3, all corners by a way of its own.
func TestHead(t *testing.T) {
	low, high, e := water.Head(example(), 1)
	equal(t, "the example", []any{low, high, e}, []any{api.Frac("3"), api.Frac("9/2"), api.OK})
	low, high, e = water.Head(example(), 2)
	equal(t, "a fixed head", []any{low, high, e}, []any{api.Frac("9"), api.Frac("9"), api.OK})
	r := rand.New(rand.NewSource(5))
	wide := 0
	for range 120 {
		n := randomNet(r, 7, 4)
		var all [][]api.Frac
		for _, cond := range cornersOf(n) {
			all = append(all, headsOf(n, cond))
		}
		for k := range n.Nodes {
			var heads []api.Frac
			for _, l := range all {
				heads = append(heads, l[k])
			}
			low, high, e := water.Head(n, k)
			least, greatest := endsOf(heads)
			equal(t, "head of "+said(n), []any{low, high, e}, []any{least, greatest, api.OK})
			if low != high {
				wide++
			}
		}
		for i, p := range n.Pipes {
			var drops []api.Frac
			for _, l := range all {
				drops = append(drops, dropOf(p, l))
			}
			low, high, e := water.Drop(n, i)
			least, greatest := endsOf(drops)
			equal(t, "drop of "+said(n), []any{low, high, e}, []any{least, greatest, api.OK})
		}
	}
	if wide < 100 {
		t.Error("too few:", wide)
	}
}

// TestBoundsHold: P3.3, P3.7 and P0.2, whatever the conductances are between Low and High.
func TestBoundsHold(t *testing.T) {
	r := rand.New(rand.NewSource(6))
	for range 60 {
		n := randomNet(r, 8, 5)
		k := r.Intn(len(n.Nodes))
		low, high, e := water.Head(n, k)
		equal(t, "error", e, api.OK)
		for range 20 {
			heads := mustHeads(t, n, within(r, n))
			equal(t, "head of "+said(n), between(low, heads[k], high), true)
		}
		if len(n.Pipes) == 0 {
			continue
		}
		i := r.Intn(len(n.Pipes))
		low, high, e = water.Drop(n, i)
		equal(t, "error", e, api.OK)
		for range 20 {
			heads := mustHeads(t, n, within(r, n))
			equal(t, "drop of "+said(n), between(low, dropOf(n.Pipes[i], heads), high), true)
		}
	}
}

// ladder is a net of steps, each with a rung, with so many loose pipes.
func ladder(steps, loose int) api.Net {
	n := api.Net{Nodes: []string{"top", "bottom"}, Heads: []api.Level{{Node: 0, Value: "10"}, {Node: 1, Value: "0"}}}
	add := func(a, b int) {
		high := api.Frac("1")
		if loose > 0 {
			loose--
			high = "3"
		}
		n.Pipes = append(n.Pipes, pipe(fmt.Sprintf("p%d", len(n.Pipes)), a, b, "1", high))
	}
	for k := range steps {
		n.Nodes = append(n.Nodes, fmt.Sprintf("n%d", k))
		if k == 0 {
			add(0, 2)
		} else {
			add(k+1, k+2)
		}
		add(k+2, 1)
	}
	return n
}

// TestLoose: P3.3 and R7, at most MaxLoose pipes are loose, however many there are.
func TestLoose(t *testing.T) {
	n := ladder(15, 10)
	least, greatest := api.Frac("11"), api.Frac("-1")
	for _, cond := range cornersOf(n) {
		if head := mustHeads(t, n, cond)[6]; compared(head, least) < 0 {
			least = head
		} else if compared(head, greatest) > 0 {
			greatest = head
		}
	}
	low, high, e := water.Head(n, 6)
	equal(t, "10 loose pipes", []any{low, high, e}, []any{least, greatest, api.OK})
	n = ladder(15, 11)
	low, high, e = water.Head(n, 6)
	equal(t, "11 loose pipes", []any{low, high, e}, []any{api.Frac(""), api.Frac(""), api.ErrScope})
	low, high, e = water.Drop(n, 29)
	equal(t, "11 loose pipes", []any{low, high, e}, []any{api.Frac(""), api.Frac(""), api.ErrScope})
	low, high, e = water.Head(n, 17)
	equal(t, "no node, and 11 loose pipes", []any{low, high, e}, []any{api.Frac(""), api.Frac(""), api.ErrNone})
	low, high, e = water.Drop(n, 30)
	equal(t, "no pipe, and 11 loose pipes", []any{low, high, e}, []any{api.Frac(""), api.Frac(""), api.ErrNone})
	equal(t, "all pipes loose", water.Check(ladder(22, 44)), api.OK)
	_, e = water.Heads(ladder(22, 44), anyCond(rand.New(rand.NewSource(7)), ladder(22, 44)))
	equal(t, "heads with all pipes loose", e, api.OK)
}

// TestHeadDropErrors: P3.3.
func TestHeadDropErrors(t *testing.T) {
	wrong := example()
	wrong.Heads = nil
	for _, k := range []int{-1, 3, 1 << 62, -1 << 63} {
		low, high, e := water.Head(example(), k)
		equal(t, "no node", []any{low, high, e}, []any{api.Frac(""), api.Frac(""), api.ErrNone})
		_, _, e = water.Head(wrong, k)
		equal(t, "the net's error first", e, api.ErrScope)
	}
	for _, i := range []int{-1, 2, 1 << 62, -1 << 63} {
		low, high, e := water.Drop(example(), i)
		equal(t, "no pipe", []any{low, high, e}, []any{api.Frac(""), api.Frac(""), api.ErrNone})
		_, _, e = water.Drop(wrong, i)
		equal(t, "the net's error first", e, api.ErrScope)
	}
}

// TestUplift: P3.4.
func TestUplift(t *testing.T) {
	for _, c := range []struct {
		node         int
		bottom, load api.Frac
		margin       api.Frac
		safe         bool
		e            api.Errno
	}{
		{1, "0", "4", "-1/2", false, api.OK},
		{1, "0", "9/2", "0", true, api.OK},
		{1, "1/2", "4", "0", true, api.OK},
		{1, "-1", "6", "1/2", true, api.OK},
		{2, "0", "-1/3", "-28/3", false, api.OK},
		{0, api.Frac(most12), api.Frac(most12), "1999999999998", true, api.OK},
		{3, "x", "x", "", false, api.ErrNone},
		{-1, "x", "x", "", false, api.ErrNone},
		{1, "x", api.Frac(over12), "", false, api.ErrForm},
		{1, api.Frac(over12), "x", "", false, api.ErrLimit},
		{1, "0", "1.5", "", false, api.ErrForm},
		{1, "0", api.Frac("1/" + over12), "", false, api.ErrLimit},
	} {
		margin, safe, e := water.Uplift(example(), c.node, c.bottom, c.load)
		equal(t, said(c), []any{margin, safe, e}, []any{c.margin, c.safe, c.e})
	}
	for _, c := range badNumbers {
		_, _, e := water.Uplift(example(), 1, c.number, "x")
		_, _, f := water.Uplift(example(), 1, "1", c.number)
		equal(t, fmt.Sprintf("%.20s", c.number), []any{e, f}, []any{c.want, c.want})
	}
	margin, safe, e := water.Uplift(ladder(15, 11), 2, "x", "x")
	equal(t, "11 loose pipes", []any{margin, safe, e}, []any{api.Frac(""), false, api.ErrScope})
	margin, safe, e = water.Uplift(api.Net{}, 2, "x", "x")
	equal(t, "no net", []any{margin, safe, e}, []any{api.Frac(""), false, api.ErrArg})
	r := rand.New(rand.NewSource(8))
	for range 40 {
		n := randomNet(r, 5, 3)
		_, high, _ := water.Head(n, 0)
		margin, safe, e := water.Uplift(n, 0, "1/3", "7/2")
		want := new(big.Rat).Sub(rat("7/2"), rat(high))
		want.Add(want, rat("1/3"))
		equal(t, "margin", []any{margin, safe, e}, []any{frac(want), want.Sign() >= 0, api.OK})
	}
}

// TestPiping: P3.4.
func TestPiping(t *testing.T) {
	n := example()
	n.Pipes = append(n.Pipes, pipe("back", 2, 1, "1/1000", "1/1000"))
	n.Nodes, n.Pipes = append(n.Nodes, "still"), append(n.Pipes, pipe("none", 0, 3, "1", "2"))
	for _, c := range []struct {
		pipe             int
		length, critical api.Frac
		worst            api.Frac
		safe             bool
		e                api.Errno
	}{
		{3, "5", "1/9", "0", true, api.OK},
		{4, "x", "x", "", false, api.ErrNone},
		{-1, "x", "x", "", false, api.ErrNone},
		{1, "x", api.Frac(over12), "", false, api.ErrForm},
		{1, api.Frac(over12), "x", "", false, api.ErrLimit},
		{1, "0", "x", "", false, api.ErrArg},
		{1, "-3", "2", "", false, api.ErrArg},
		{1, "3", "x", "", false, api.ErrForm},
		{1, "3", api.Frac("1/" + over12), "", false, api.ErrLimit},
		{1, "3", "0", "", false, api.ErrArg},
		{1, "3", "-1/2", "", false, api.ErrArg},
	} {
		worst, safe, e := water.Piping(n, c.pipe, c.length, c.critical)
		equal(t, said(c), []any{worst, safe, e}, []any{c.worst, c.safe, c.e})
	}
	for _, c := range badNumbers {
		_, _, e := water.Piping(example(), 1, c.number, "x")
		_, _, f := water.Piping(example(), 1, "1", c.number)
		equal(t, fmt.Sprintf("%.20s", c.number), []any{e, f}, []any{c.want, c.want})
	}
	worst, safe, e := water.Piping(ladder(15, 11), 2, "x", "x")
	equal(t, "11 loose pipes", []any{worst, safe, e}, []any{api.Frac(""), false, api.ErrScope})
	worst, safe, e = water.Piping(api.Net{}, 2, "x", "x")
	equal(t, "no net", []any{worst, safe, e}, []any{api.Frac(""), false, api.ErrArg})
}

// TestPipingWorst: P3.4, the greater one in size of both numbers counts, and a gradient that is critical is safe.
func TestPipingWorst(t *testing.T) {
	for _, c := range []struct {
		pipe             int
		length, critical api.Frac
		worst            api.Frac
		safe             bool
	}{
		{1, "3", "2", "2", true},
		{1, "3", "199/100", "2", false},
		{0, "1/2", "10", "9", true},
		{0, "9", "1/2", "1/2", true},
		{0, "9", "499/1000", "1/2", false},
	} {
		worst, safe, e := water.Piping(example(), c.pipe, c.length, c.critical)
		equal(t, said(c), []any{worst, safe, e}, []any{c.worst, c.safe, api.OK})
		n := example()
		n.Pipes[c.pipe].From, n.Pipes[c.pipe].To = n.Pipes[c.pipe].To, n.Pipes[c.pipe].From
		worst, safe, e = water.Piping(n, c.pipe, c.length, c.critical)
		equal(t, "the other way "+said(c), []any{worst, safe, e}, []any{c.worst, c.safe, api.OK})
	}
	bridge := api.Net{Nodes: []string{"s", "u", "v", "t"}, Heads: []api.Level{{Node: 0, Value: "10"}, {Node: 3, Value: "0"}}}
	bridge.Pipes = []api.Pipe{pipe("su", 0, 1, "1", "3"), pipe("sv", 0, 2, "1", "2"), pipe("ut", 1, 3, "1", "1"), pipe("vt", 2, 3, "1", "1"), pipe("uv", 1, 2, "1", "1")}
	worst, safe, e := water.Piping(bridge, 4, "1", "1")
	equal(t, "from -10/11 to 10/7 at a bridge", []any{worst, safe, e}, []any{api.Frac("10/7"), false, api.OK})
	bridge.Pipes[4].From, bridge.Pipes[4].To = 2, 1
	worst, safe, e = water.Piping(bridge, 4, "1", "1")
	equal(t, "from -10/7 to 10/11 at a bridge", []any{worst, safe, e}, []any{api.Frac("10/7"), false, api.OK})
	r := rand.New(rand.NewSource(9))
	both := 0
	for range 300 {
		n := randomNet(r, 6, 3)
		for i := range n.Pipes {
			low, high, _ := water.Drop(n, i)
			if rat(low).Sign() < 0 && rat(high).Sign() > 0 {
				both++
			}
			size := new(big.Rat).Abs(rat(low))
			if other := new(big.Rat).Abs(rat(high)); other.Cmp(size) > 0 {
				size = other
			}
			size.Quo(size, rat("3/2"))
			worst, safe, e := water.Piping(n, i, "3/2", "5")
			equal(t, "gradient", []any{worst, safe, e}, []any{frac(size), size.Cmp(rat("5")) <= 0, api.OK})
		}
	}
	if both < 5 {
		t.Error("too few:", both)
	}
}
