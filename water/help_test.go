package water_test

import (
	"fmt"
	"math/big"
	"math/rand"
	"reflect"
	"slices"
	"strings"
	"testing"

	"underpin/api"
	"underpin/water"
)

// example is the net N of the chapter.
func example() api.Net {
	return api.Net{
		Nodes: []string{"pit", "mid", "river"},
		Pipes: []api.Pipe{pipe("a", 0, 1, "1", "2"), pipe("b", 1, 2, "1", "1")},
		Heads: []api.Level{{Node: 0, Value: "0"}, {Node: 2, Value: "9"}},
	}
}

func pipe(name string, from, to int, low, high api.Frac) api.Pipe {
	return api.Pipe{Name: name, From: from, To: to, Low: low, High: high}
}

// numbers are the words of a text.
func numbers(text string) []api.Frac {
	var l []api.Frac
	for _, word := range strings.Fields(text) {
		l = append(l, api.Frac(word))
	}
	return l
}

// equal fails unless both are equal (nil and empty lists are).
func equal(t testing.TB, what string, got, want any) {
	t.Helper()
	g, w := reflect.ValueOf(got), reflect.ValueOf(want)
	if g.Kind() == reflect.Slice && g.Len() == 0 && w.Len() == 0 {
		return
	}
	if !reflect.DeepEqual(got, want) {
		t.Fatalf("%s: got %v, want %v", what, got, want)
	}
}

// said writes anything: nil and empty lists alike.
func said(l ...any) string {
	return fmt.Sprintf("%q", fmt.Sprint(l...))
}

// Numbers of MaxDigits digits, and of just as many as numbers in nets may have.
var (
	most   = strings.Repeat("9", api.MaxDigits)
	most12 = "999999999999"
	over12 = "1000000000000"
)

// badNumbers are numbers that a net must not have, and the error.
var badNumbers = []struct {
	number api.Frac
	want   api.Errno
}{
	{"", api.ErrForm},
	{"2/4", api.ErrForm},
	{"1.5", api.ErrForm},
	{"-0", api.ErrForm},
	{api.Frac(most + "0"), api.ErrForm},
	{api.Frac(over12), api.ErrLimit},
	{api.Frac("-" + over12), api.ErrLimit},
	{api.Frac("1/" + over12), api.ErrLimit},
	{api.Frac(most), api.ErrLimit},
}

// rat returns a number as math/big has it.
func rat(a api.Frac) *big.Rat {
	x, ok := new(big.Rat).SetString(string(a))
	if !ok {
		panic("no number: " + string(a))
	}
	return x
}

// frac returns a number of math/big as text.
func frac(x *big.Rat) api.Frac {
	return api.Frac(x.RatString())
}

// compared is -1, 0 or 1 as one number is less than, equal to, or greater than another one.
func compared(a, b api.Frac) int {
	return rat(a).Cmp(rat(b))
}

// between tells whether a number lies between two others.
func between(low, a, high api.Frac) bool {
	return compared(low, a) <= 0 && compared(a, high) <= 0
}

// flowOf is the flow of a pipe, by the words of the chapter.
func flowOf(p api.Pipe, cond api.Frac, heads []api.Frac) *big.Rat {
	drop := new(big.Rat).Sub(rat(heads[p.From]), rat(heads[p.To]))
	return drop.Mul(drop, rat(cond))
}

// awayOf is the sum of the flows from a node less those to it.
func awayOf(n api.Net, cond, heads []api.Frac, node int) *big.Rat {
	sum := new(big.Rat)
	for i, p := range n.Pipes {
		if p.From == node {
			sum.Add(sum, flowOf(p, cond[i], heads))
		}
		if p.To == node {
			sum.Sub(sum, flowOf(p, cond[i], heads))
		}
	}
	return sum
}

// areHeads tells whether numbers are the heads of a net, by the words of the chapter.
func areHeads(n api.Net, cond, heads []api.Frac) bool {
	out := make([]*big.Rat, len(n.Nodes))
	for k := range out {
		out[k] = new(big.Rat)
	}
	for _, well := range n.Wells {
		out[well.Node] = rat(well.Value)
	}
	held := map[int]bool{}
	for _, head := range n.Heads {
		if heads[head.Node] != head.Value {
			return false
		}
		held[head.Node] = true
	}
	for k := range n.Nodes {
		if taken := awayOf(n, cond, heads, k); !held[k] && taken.Neg(taken).Cmp(out[k]) != 0 {
			return false
		}
	}
	return true
}

// headsOf finds the heads of a net by way of its own: rows of math/big, the greatest factor first.
func headsOf(n api.Net, cond []api.Frac) []api.Frac {
	size := len(n.Nodes)
	rows := make([][]*big.Rat, size)
	for k := range rows {
		for range size + 1 {
			rows[k] = append(rows[k], new(big.Rat))
		}
	}
	for i, p := range n.Pipes {
		c := rat(cond[i])
		rows[p.From][p.From].Add(rows[p.From][p.From], c)
		rows[p.To][p.To].Add(rows[p.To][p.To], c)
		rows[p.From][p.To].Sub(rows[p.From][p.To], c)
		rows[p.To][p.From].Sub(rows[p.To][p.From], c)
	}
	for _, well := range n.Wells {
		rows[well.Node][size].Neg(rat(well.Value))
	}
	for _, head := range n.Heads {
		for i := range rows[head.Node] {
			rows[head.Node][i] = new(big.Rat)
		}
		rows[head.Node][head.Node].SetInt64(1)
		rows[head.Node][size] = rat(head.Value)
	}
	for k := range size {
		at := k
		for i := k; i < size; i++ {
			if new(big.Rat).Abs(rows[i][k]).Cmp(new(big.Rat).Abs(rows[at][k])) > 0 {
				at = i
			}
		}
		rows[k], rows[at] = rows[at], rows[k]
		for i := range rows {
			times := new(big.Rat).Quo(rows[i][k], rows[k][k])
			for j := k; i != k && j <= size; j++ {
				rows[i][j] = new(big.Rat).Sub(rows[i][j], new(big.Rat).Mul(times, rows[k][j]))
			}
		}
	}
	var heads []api.Frac
	for k := range size {
		heads = append(heads, frac(new(big.Rat).Quo(rows[k][size], rows[k][k])))
	}
	return heads
}

// cornersOf returns all conductances at which each pipe has its Low or its High.
func cornersOf(n api.Net) [][]api.Frac {
	all := [][]api.Frac{nil}
	for _, p := range n.Pipes {
		var longer [][]api.Frac
		for _, cond := range all {
			longer = append(longer, append(slices.Clone(cond), p.Low))
			if p.Low != p.High {
				longer = append(longer, append(slices.Clone(cond), p.High))
			}
		}
		all = longer
	}
	return all
}

// within makes conductances between Low and High.
func within(r *rand.Rand, n api.Net) []api.Frac {
	var cond []api.Frac
	for _, p := range n.Pipes {
		x := new(big.Rat).Sub(rat(p.High), rat(p.Low))
		x.Mul(x, big.NewRat(int64(r.Intn(7)), 6))
		cond = append(cond, frac(x.Add(x, rat(p.Low))))
	}
	return cond
}

// anyCond makes conductances above 0.
func anyCond(r *rand.Rand, n api.Net) []api.Frac {
	var cond []api.Frac
	for range n.Pipes {
		cond = append(cond, frac(big.NewRat(int64(1+r.Intn(12)), int64(1+r.Intn(5)))))
	}
	return cond
}

// randomNet makes a net of up to so many nodes, with up to so many loose pipes.
func randomNet(r *rand.Rand, most, loose int) api.Net {
	var n api.Net
	size := 1 + r.Intn(most)
	for k := range size {
		n.Nodes = append(n.Nodes, fmt.Sprintf("n%d", (k*7)%31))
	}
	heads := 1 + r.Intn(min(3, size))
	order := r.Perm(size)
	add := func(a, b int) {
		if r.Intn(2) == 0 {
			a, b = b, a
		}
		low := big.NewRat(int64(1+r.Intn(8)), int64(1+r.Intn(4)))
		high := new(big.Rat).Set(low)
		if loose > 0 && r.Intn(2) == 0 {
			loose--
			high.Add(high, big.NewRat(int64(1+r.Intn(9)), int64(1+r.Intn(3))))
		}
		n.Pipes = append(n.Pipes, pipe(fmt.Sprintf("p%d", len(n.Pipes)), a, b, frac(low), frac(high)))
	}
	for i, k := range order { // each node behind the first ones is joined to one ahead of it
		if i < heads {
			n.Heads = append(n.Heads, api.Level{Node: k, Value: frac(big.NewRat(int64(r.Intn(41)-20), int64(1+r.Intn(3))))})
			continue
		}
		add(k, order[r.Intn(i)])
		if r.Intn(3) == 0 {
			n.Wells = append(n.Wells, api.Level{Node: k, Value: frac(big.NewRat(int64(r.Intn(21)-10), int64(1+r.Intn(3))))})
		}
	}
	for range r.Intn(size + 1) {
		if a, b := r.Intn(size), r.Intn(size); a != b {
			add(a, b)
		}
	}
	r.Shuffle(len(n.Pipes), func(i, j int) { n.Pipes[i], n.Pipes[j] = n.Pipes[j], n.Pipes[i] })
	return n
}

// joinedTo returns the nodes that pipes join to a node, with itself.
func joinedTo(n api.Net, node int) map[int]bool {
	joined := map[int]bool{node: true}
	for range n.Nodes {
		for _, p := range n.Pipes {
			if joined[p.From] || joined[p.To] {
				joined[p.From], joined[p.To] = true, true
			}
		}
	}
	return joined
}

// wholeOf finds the conductance of a whole net and the heads that it has, by the words of the chapter.
func wholeOf(n api.Net, cond []api.Frac, a, b int) (api.Frac, []api.Frac) {
	alone := api.Net{Nodes: n.Nodes, Pipes: n.Pipes, Heads: []api.Level{{Node: a, Value: "1"}, {Node: b, Value: "0"}}}
	joined := joinedTo(n, a)
	for k := range n.Nodes {
		if !joined[k] {
			alone.Heads = append(alone.Heads, api.Level{Node: k, Value: "5"})
		}
	}
	heads := headsOf(alone, cond)
	return frac(awayOf(n, cond, heads, a)), heads
}

// mustHeads returns the heads of a net.
func mustHeads(t testing.TB, n api.Net, cond []api.Frac) []api.Frac {
	t.Helper()
	heads, e := water.Heads(n, cond)
	if e != api.OK {
		t.Fatal(e, said(n), cond)
	}
	return heads
}
