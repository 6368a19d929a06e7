package water

import "underpin/api"

// blank returns equations in which all numbers are 0.
func blank(n int) [][width]amount {
	equations := make([][width]amount, n)
	for k := range equations {
		for i := range equations[k] {
			equations[k][i] = "0"
		}
	}
	return equations
}

// balance returns the equations of the heads of a net, with a right side; the one of a node has its number.
func balance(n api.Net, cond []amount) [][width]amount {
	equations, held, side := blank(len(n.Nodes)), fixed(n), len(n.Nodes)
	for i, p := range n.Pipes {
		for _, way := range [2][2]int{{p.From, p.To}, {p.To, p.From}} {
			here, there := way[0], way[1]
			if !held[here] {
				equations[here][here] = equations[here][here].plus(cond[i])
				equations[here][there] = equations[here][there].less(cond[i])
			}
		}
	}
	for _, head := range n.Heads {
		equations[head.Node][head.Node] = "1"
		equations[head.Node][side] = amount(head.Value)
	}
	for _, well := range n.Wells {
		equations[well.Node][side] = amount("0").less(amount(well.Value))
	}
	return equations
}

// headsAt returns the heads of a net, for conductances.
func headsAt(n api.Net, cond []amount) []amount {
	heads, _ := spread(n, cond, nil)
	return heads
}

// spread returns the heads of a net, for conductances, and for each of some nodes without a fixed head by how much each
// head falls if 1 more is taken out there.
func spread(n api.Net, cond []amount, taken []int) (heads []amount, falls [][]amount) {
	equations, side := balance(n, cond), len(n.Nodes)
	for i, node := range taken {
		equations[node][side+1+i] = "1"
	}
	solve(equations, 1+len(taken))
	falls = make([][]amount, len(taken))
	for _, solved := range equations {
		heads = append(heads, solved[side])
		for i := range taken {
			falls[i] = append(falls[i], solved[side+1+i])
		}
	}
	return heads, falls
}
