package water

import (
	"underpin/api"
	"underpin/exact"
)

// Check returns the first error of a net (P3.1).
func Check(n api.Net) api.Errno {
	for _, check := range []func(api.Net) api.Errno{checkNodes, checkPipes, checkHeads, checkWells, checkJoined} {
		if e := check(n); e != api.OK {
			return e
		}
	}
	return api.OK
}

// checkNodes returns the error of a net's nodes.
func checkNodes(n api.Net) api.Errno {
	if len(n.Nodes) > api.MaxNodes {
		return api.ErrLimit
	}
	if len(n.Nodes) == 0 {
		return api.ErrArg
	}
	seen := names{}
	for _, name := range n.Nodes {
		if e := seen.add(name); e != api.OK {
			return e
		}
	}
	return api.OK
}

// checkPipes returns the error of a net's pipes.
func checkPipes(n api.Net) api.Errno {
	if len(n.Pipes) > api.MaxEdges {
		return api.ErrLimit
	}
	seen := names{}
	for _, p := range n.Pipes {
		if e := seen.add(p.Name); e != api.OK {
			return e
		}
		switch {
		case !hasNode(n, p.From) || !hasNode(n, p.To):
			return api.ErrNone
		case p.From == p.To:
			return api.ErrArg
		}
		for _, a := range []api.Frac{p.Low, p.High} {
			if e := checkNumber(a); e != api.OK {
				return e
			}
		}
		if !greater(p.Low, "0") || greater(p.Low, p.High) {
			return api.ErrArg
		}
	}
	return api.OK
}

// checkHeads returns the error of a net's fixed heads.
func checkHeads(n api.Net) api.Errno {
	return checkLevels(n, n.Heads, marks{})
}

// checkWells returns the error of a net's wells.
func checkWells(n api.Net) api.Errno {
	return checkLevels(n, n.Wells, fixed(n))
}

// checkLevels returns the error of levels: their nodes must not be among those that are barred.
func checkLevels(n api.Net, levels []api.Level, barred marks) api.Errno {
	var seen marks
	for _, l := range levels {
		switch {
		case !hasNode(n, l.Node):
			return api.ErrNone
		case seen[l.Node]:
			return api.ErrTwice
		}
		seen[l.Node] = true
		if e := checkNumber(l.Value); e != api.OK {
			return e
		}
		if barred[l.Node] {
			return api.ErrClash
		}
	}
	return api.OK
}

// checkJoined returns the error of a net in which some node is not joined to a fixed head.
func checkJoined(n api.Net) api.Errno {
	joined := reached(n, fixed(n))
	for node := range n.Nodes {
		if !joined[node] {
			return api.ErrScope
		}
	}
	return api.OK
}

// checkWith returns the error of a net, and of conductances.
func checkWith(n api.Net, cond []api.Frac) api.Errno {
	if e := Check(n); e != api.OK {
		return e
	}
	if len(cond) != len(n.Pipes) {
		return api.ErrArg
	}
	for _, a := range cond {
		if e := checkPositive(a); e != api.OK {
			return e
		}
	}
	return api.OK
}

// checkEnds returns the error of two nodes between which the whole of a net is looked at.
func checkEnds(n api.Net, a, b int) api.Errno {
	switch {
	case !hasNode(n, a) || !hasNode(n, b):
		return api.ErrNone
	case a == b:
		return api.ErrArg
	case !reached(n, only(a))[b]:
		return api.ErrScope
	}
	return api.OK
}

// checkPlan returns the error of wells that are to keep limits.
func checkPlan(n api.Net, wells []int, limits []api.Level) api.Errno {
	if len(wells) > api.MaxNodes || len(limits) > api.MaxNodes {
		return api.ErrLimit
	}
	held := fixed(n)
	for i, node := range wells {
		switch {
		case !hasNode(n, node):
			return api.ErrNone
		case held[node]:
			return api.ErrClash
		case i > 0 && node <= wells[i-1]:
			return api.ErrArg
		}
	}
	return checkLevels(n, limits, marks{})
}

// checkNumbers returns the error of a list of numbers of any length, of which there are to be so many.
func checkNumbers(numbers []api.Frac, many int) api.Errno {
	if len(numbers) != many {
		return api.ErrArg
	}
	for _, a := range numbers {
		if !exact.Valid(a) {
			return api.ErrForm
		}
	}
	return api.OK
}

// checkPositive returns the error of a number that is to be above 0.
func checkPositive(a api.Frac) api.Errno {
	if e := checkNumber(a); e != api.OK {
		return e
	}
	if !greater(a, "0") {
		return api.ErrArg
	}
	return api.OK
}

// checkNumber returns the error of a number: the same as of the Bound of a row.
func checkNumber(a api.Frac) api.Errno {
	return exact.Check([]api.Row{{Bound: a}})
}

// greater tells whether one number is greater than another one.
func greater(a, b api.Frac) bool {
	c, _ := exact.Cmp(a, b)
	return c > 0
}

// names are those that came ahead in a list.
type names map[string]bool

// add returns the error of the next name of the list. Names of terms are names like all others, so that exact is asked.
func (n names) add(name string) api.Errno {
	if _, e := exact.Sum([]api.Term{{Name: name, Coef: "1"}}, nil); e != api.OK {
		return e
	}
	if n[name] {
		return api.ErrTwice
	}
	n[name] = true
	return api.OK
}

// marks are nodes that are marked.
type marks [api.MaxNodes]bool

// hasNode tells whether a number is that of a node.
func hasNode(n api.Net, node int) bool {
	return node >= 0 && node < len(n.Nodes)
}

// only marks one node.
func only(node int) marks {
	var one marks
	one[node] = true
	return one
}

// fixed marks the nodes of a net with a fixed head.
func fixed(n api.Net) marks {
	var held marks
	for _, head := range n.Heads {
		held[head.Node] = true
	}
	return held
}

// reached marks the nodes that pipes join to those that are marked, and those themselves.
func reached(n api.Net, marked marks) marks {
search:
	for {
		for _, p := range n.Pipes {
			if marked[p.From] != marked[p.To] {
				marked[p.From], marked[p.To] = true, true
				continue search
			}
		}
		return marked
	}
}
