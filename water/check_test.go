package water_test

import (
	"fmt"
	"maps"
	"math/rand"
	"slices"
	"testing"

	"underpin/api"
	"underpin/water"
)

// wrongs are changes of the example, part by part in the order of Check, with the error that each one makes.
var wrongs = []struct {
	part, what string
	change     func(n *api.Net)
	want       api.Errno
}{
	{"nodes", "25 nodes", func(n *api.Net) { n.Nodes = make([]string, 25) }, api.ErrLimit},
	{"nodes", "none", func(n *api.Net) { n.Nodes = nil }, api.ErrArg},
	{"nodes", "empty", func(n *api.Net) { n.Nodes = []string{} }, api.ErrArg},
	{"nodes", "no name", func(n *api.Net) { n.Nodes[1] = "Mid" }, api.ErrName},
	{"nodes", "empty name", func(n *api.Net) { n.Nodes[0] = "" }, api.ErrName},
	{"nodes", "long name", func(n *api.Net) { n.Nodes[2] = "abcdefghijklmnopq" }, api.ErrName},
	{"nodes", "a digit first", func(n *api.Net) { n.Nodes[2] = "1a" }, api.ErrName},
	{"nodes", "twice", func(n *api.Net) { n.Nodes[2] = "pit" }, api.ErrTwice},
	{"pipes", "49 pipes", func(n *api.Net) { n.Pipes = make([]api.Pipe, 49) }, api.ErrLimit},
	{"pipes", "no name", func(n *api.Net) { n.Pipes[1].Name, n.Pipes[1].From = "-b", 9 }, api.ErrName},
	{"pipes", "no name at all", func(n *api.Net) { n.Pipes[1] = api.Pipe{} }, api.ErrName},
	{"pipes", "twice", func(n *api.Net) { n.Pipes[1].Name, n.Pipes[1].From = "a", 9 }, api.ErrTwice},
	{"pipes", "From -1", func(n *api.Net) { n.Pipes[0].From, n.Pipes[0].Low = -1, "x" }, api.ErrNone},
	{"pipes", "From 3", func(n *api.Net) { n.Pipes[0].From = 3 }, api.ErrNone},
	{"pipes", "To -1", func(n *api.Net) { n.Pipes[0].To = -1 }, api.ErrNone},
	{"pipes", "To 3", func(n *api.Net) { n.Pipes[0].To = 3 }, api.ErrNone},
	{"pipes", "both 3", func(n *api.Net) { n.Pipes[0].From, n.Pipes[0].To = 3, 3 }, api.ErrNone},
	{"pipes", "From far off", func(n *api.Net) { n.Pipes[0].From = 1 << 62 }, api.ErrNone},
	{"pipes", "a ring", func(n *api.Net) { n.Pipes[0].To, n.Pipes[0].Low = 0, "x" }, api.ErrArg},
	{"pipes", "Low no number", func(n *api.Net) { n.Pipes[0].Low, n.Pipes[0].High = "x", api.Frac(over12) }, api.ErrForm},
	{"pipes", "Low too long", func(n *api.Net) { n.Pipes[0].Low, n.Pipes[0].High = api.Frac(over12), "x" }, api.ErrLimit},
	{"pipes", "High no number", func(n *api.Net) { n.Pipes[0].Low, n.Pipes[0].High = "-1", "x" }, api.ErrForm},
	{"pipes", "High too long", func(n *api.Net) { n.Pipes[0].Low, n.Pipes[0].High = "0", api.Frac("2/"+over12[:12]+"1") }, api.ErrLimit},
	{"pipes", "Low 0", func(n *api.Net) { n.Pipes[0].Low = "0" }, api.ErrArg},
	{"pipes", "both 0", func(n *api.Net) { n.Pipes[0].Low, n.Pipes[0].High = "0", "0" }, api.ErrArg},
	{"pipes", "Low below 0", func(n *api.Net) { n.Pipes[0].Low = "-1/2" }, api.ErrArg},
	{"pipes", "Low above High", func(n *api.Net) { n.Pipes[0].Low = "5/2" }, api.ErrArg},
	{"heads", "no node -1", func(n *api.Net) { n.Heads[1] = api.Level{Node: -1, Value: "x"} }, api.ErrNone},
	{"heads", "no node 3", func(n *api.Net) { n.Heads[1].Node = 3 }, api.ErrNone},
	{"heads", "twice", func(n *api.Net) { n.Heads[1] = api.Level{Node: 0, Value: "x"} }, api.ErrTwice},
	{"heads", "no number", func(n *api.Net) { n.Heads[1].Value = "" }, api.ErrForm},
	{"heads", "too long", func(n *api.Net) { n.Heads[1].Value = api.Frac(over12) }, api.ErrLimit},
	{"wells", "no node -1", func(n *api.Net) { n.Wells = []api.Level{{Node: -1, Value: "x"}} }, api.ErrNone},
	{"wells", "no node 3", func(n *api.Net) { n.Wells = []api.Level{{Node: 3}} }, api.ErrNone},
	{"wells", "twice", func(n *api.Net) { n.Wells = []api.Level{{Node: 1, Value: "1"}, {Node: 1, Value: "x"}} }, api.ErrTwice},
	{"wells", "no number", func(n *api.Net) { n.Wells = []api.Level{{Node: 0, Value: "2/4"}} }, api.ErrForm},
	{"wells", "too long", func(n *api.Net) { n.Wells = []api.Level{{Node: 0, Value: api.Frac("-" + over12)}} }, api.ErrLimit},
	{"wells", "a fixed head", func(n *api.Net) { n.Wells = []api.Level{{Node: 0, Value: "0"}} }, api.ErrClash},
	{"wells", "a fixed head, then another error", func(n *api.Net) { n.Wells = []api.Level{{Node: 2, Value: "1"}, {Node: 9}} }, api.ErrClash},
	{"joined", "no fixed head", func(n *api.Net) { n.Heads = nil }, api.ErrScope},
	{"joined", "no other fixed head", func(n *api.Net) { n.Heads = []api.Level{} }, api.ErrScope},
}

// TestCheck: P3.1, the errors of a net.
func TestCheck(t *testing.T) {
	equal(t, "the example", water.Check(example()), api.OK)
	for _, c := range wrongs {
		n := example()
		c.change(&n)
		equal(t, c.part+": "+c.what, water.Check(n), c.want)
	}
}

// TestCheckOrder: P3.1 and R1, of the errors in two parts the first one counts.
func TestCheckOrder(t *testing.T) {
	for i, first := range wrongs {
		for _, then := range wrongs[i+1:] {
			if first.part == then.part || then.part == "joined" && (first.part == "heads" || first.want == api.ErrClash) {
				continue
			}
			n := example()
			then.change(&n)
			first.change(&n)
			equal(t, first.part+": "+first.what+", "+then.part+": "+then.what, water.Check(n), first.want)
		}
	}
}

// TestCheckNumbers: P3.1, each number of a net.
func TestCheckNumbers(t *testing.T) {
	for _, c := range badNumbers {
		for what, change := range map[string]func(n *api.Net){
			"Low":  func(n *api.Net) { n.Pipes[1].Low = c.number },
			"High": func(n *api.Net) { n.Pipes[1].High = c.number },
			"head": func(n *api.Net) { n.Heads[0].Value = c.number },
			"well": func(n *api.Net) { n.Wells = []api.Level{{Node: 1, Value: c.number}} },
		} {
			n := example()
			change(&n)
			equal(t, fmt.Sprintf("%s %.20s", what, c.number), water.Check(n), c.want)
		}
	}
}

// TestCheckFirstElement: P3.1 and R1, of two elements of a list the first one counts, whatever the errors are.
func TestCheckFirstElement(t *testing.T) {
	n := example()
	n.Pipes[0].Low, n.Pipes[1].Name = "3", "B"
	equal(t, "pipes", water.Check(n), api.ErrArg)
	n = example()
	n.Heads[0].Value, n.Heads[1].Node = "x", 7
	equal(t, "heads", water.Check(n), api.ErrForm)
	n = example()
	n.Wells = []api.Level{{Node: 1, Value: api.Frac(over12)}, {Node: 7}}
	equal(t, "wells", water.Check(n), api.ErrLimit)
	n = example()
	n.Nodes = []string{"pit", "pit", "B"}
	equal(t, "nodes", water.Check(n), api.ErrTwice)
	n.Nodes = []string{"pit", "B", "pit"}
	equal(t, "nodes", water.Check(n), api.ErrName)
}

// TestCheckJoined: P3.1, each node is to be joined to a fixed head.
func TestCheckJoined(t *testing.T) {
	n := example()
	n.Nodes = append(n.Nodes, "far")
	equal(t, "a node alone", water.Check(n), api.ErrScope)
	n.Nodes = append(n.Nodes, "near")
	n.Pipes = append(n.Pipes, pipe("c", 3, 4, "1", "1"))
	equal(t, "two nodes apart", water.Check(n), api.ErrScope)
	n.Heads = append(n.Heads, api.Level{Node: 4, Value: "1"})
	equal(t, "two nodes apart with a fixed head", water.Check(n), api.OK)
	n.Pipes = n.Pipes[1:]
	equal(t, "a fixed head without pipes", water.Check(n), api.OK)
	n.Heads = n.Heads[:1]
	equal(t, "no fixed head beyond", water.Check(n), api.ErrScope)
	n = example()
	n.Pipes = nil
	equal(t, "no pipes", water.Check(n), api.ErrScope)
	r := rand.New(rand.NewSource(1))
	apart := 0
	for range 400 {
		n := randomNet(r, 12, 0)
		equal(t, "joined", water.Check(n), api.OK)
		n.Pipes = slices.Delete(n.Pipes, 0, min(len(n.Pipes), r.Intn(3)))
		want := api.OK
		joined := map[int]bool{}
		for _, head := range n.Heads {
			maps.Copy(joined, joinedTo(n, head.Node))
		}
		if len(joined) < len(n.Nodes) {
			want = api.ErrScope
			apart++
		}
		equal(t, "some pipes less", water.Check(n), want)
	}
	if apart < 50 {
		t.Error("too few:", apart)
	}
}

// largest is a net with as much of everything as may be.
func largest() api.Net {
	var n api.Net
	for k := range 24 {
		n.Nodes = append(n.Nodes, fmt.Sprintf("abcdefghijklmn%02d", k))
	}
	for i := range 48 {
		n.Pipes = append(n.Pipes, pipe(fmt.Sprintf("abcdefghijklm-%02d", i), i%24, (i+1)%24, api.Frac("1/"+most12), api.Frac(most12)))
	}
	for k := range 24 {
		l := api.Level{Node: 23 - k, Value: api.Frac("-999999999998/" + most12)}
		if k%2 == 0 {
			n.Heads = append(n.Heads, l)
		} else {
			n.Wells = append(n.Wells, l)
		}
	}
	return n
}

// TestCheckLimits: P3.1 and R7, at most n includes n.
func TestCheckLimits(t *testing.T) {
	equal(t, "all at once", water.Check(largest()), api.OK)
	equal(t, "the least one", water.Check(api.Net{Nodes: []string{"a"}, Heads: []api.Level{{Value: "0"}}}), api.OK)
	equal(t, "empty lists", water.Check(api.Net{Nodes: []string{"a"}, Pipes: []api.Pipe{}, Heads: []api.Level{{Value: "-1"}}, Wells: []api.Level{}}), api.OK)
	equal(t, "no head", water.Check(api.Net{Nodes: []string{"a"}}), api.ErrScope)
	equal(t, "nothing", water.Check(api.Net{}), api.ErrArg)
	n := example()
	n.Pipes[0].Name, n.Pipes[1].Name = "pit", "river"
	equal(t, "pipes with names of nodes", water.Check(n), api.OK)
	n.Pipes[1] = pipe("back", 2, 1, "1", "1")
	equal(t, "joined the other way", water.Check(n), api.OK)
	n.Pipes = append(n.Pipes, pipe("beside", 1, 2, "1", "1"))
	equal(t, "two pipes beside each other", water.Check(n), api.OK)
	n.Heads = n.Heads[:1]
	equal(t, "one fixed head", water.Check(n), api.OK)
	long := api.Net{Nodes: []string{"a", "b", "c", "d"}, Heads: []api.Level{{Node: 3, Value: "0"}}}
	for k := range 3 {
		long.Pipes = append(long.Pipes, pipe(long.Nodes[k], k, k+1, "1", "1"))
	}
	equal(t, "joined by way of others", water.Check(long), api.OK)
	equal(t, "long lists", water.Check(api.Net{Nodes: make([]string, 1000000)}), api.ErrLimit)
	n.Heads = make([]api.Level, 1000000)
	equal(t, "long lists", water.Check(n), api.ErrForm)
}
