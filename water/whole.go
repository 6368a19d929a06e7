package water

import (
	"strconv"

	"underpin/api"
	"underpin/exact"
)

// Whole returns the conductance of a whole net between two nodes (P3.5).
func Whole(n api.Net, cond []api.Frac, a, b int) (api.Frac, api.Errno) {
	if e := checkWith(n, cond); e != api.OK {
		return "", e
	}
	if e := checkEnds(n, a, b); e != api.OK {
		return "", e
	}
	heads := headsAt(across(n, a, b), amounts(cond))
	total := amount("0")
	for i, p := range n.Pipes {
		flow := amount(cond[i]).times(drop(p, heads))
		switch a {
		case p.From:
			total = total.plus(flow)
		case p.To:
			total = total.less(flow)
		}
	}
	return api.Frac(total), api.OK
}

// across returns the pipes of a net between a head of 1 at a and of 0 at b. Nodes that are not joined to them do not
// matter: they are held, so that their heads are known.
func across(n api.Net, a, b int) api.Net {
	heads := []api.Level{{Node: a, Value: "1"}, {Node: b, Value: "0"}}
	joined := reached(n, only(a))
	for node := range n.Nodes {
		if !joined[node] {
			heads = append(heads, api.Level{Node: node, Value: "0"})
		}
	}
	return api.Net{Nodes: n.Nodes, Pipes: n.Pipes, Heads: heads}
}

// Above returns a number that the conductance of the whole is never above, by heads (P3.5).
func Above(n api.Net, a, b int, heads []api.Frac) (api.Frac, api.Errno) {
	if e := checkProof(n, a, b, heads, len(n.Nodes)); e != api.OK {
		return "", e
	}
	if heads[a] != "1" || heads[b] != "0" {
		return "", api.ErrState
	}
	var products [][]api.Frac
	for _, p := range n.Pipes {
		from, to := heads[p.From], heads[p.To]
		products = append(products, []api.Frac{p.High, from, from}, []api.Frac{p.High, to, to}, []api.Frac{"-2", p.High, from, to})
	}
	return exact.Products(products)
}

// Below returns a number that the conductance of the whole is never below, by flows (P3.5).
func Below(n api.Net, a, b int, flows []api.Frac) (api.Frac, api.Errno) {
	if e := checkProof(n, a, b, flows, len(n.Pipes)); e != api.OK {
		return "", e
	}
	if !unitFlow(n, a, b, flows) {
		return "", api.ErrState
	}
	var products [][]api.Frac
	for i, p := range n.Pipes {
		products = append(products, []api.Frac{api.Frac(amount("1").over(amount(p.Low))), flows[i], flows[i]})
	}
	sum, e := exact.Products(products)
	if e != api.OK {
		return "", e
	}
	return exact.Div("1", sum)
}

// checkProof returns the error of a net, of two nodes, and of numbers that are to prove something of it.
func checkProof(n api.Net, a, b int, numbers []api.Frac, many int) api.Errno {
	if e := Check(n); e != api.OK {
		return e
	}
	if e := checkEnds(n, a, b); e != api.OK {
		return e
	}
	return checkNumbers(numbers, many)
}

// unitFlow tells whether flows lead 1 from a to b. Rows say that nowhere more flows away than is to; together that is 0,
// as is what is to, so that it is nowhere less either. Sums of rows have no limit of digits.
func unitFlow(n api.Net, a, b int, flows []api.Frac) bool {
	rows := make([]api.Row, len(n.Nodes))
	for node := range rows {
		rows[node].Bound = "0"
	}
	rows[a].Bound, rows[b].Bound = "1", "-1"
	var point []api.Value
	for i, p := range n.Pipes {
		name := numbered("f", i)
		point = append(point, api.Value{Name: name, Value: flows[i]})
		rows[p.From].Terms = append(rows[p.From].Terms, api.Term{Name: name, Coef: "1"})
		rows[p.To].Terms = append(rows[p.To].Terms, api.Term{Name: name, Coef: "-1"})
	}
	broken, e := exact.Holds(rows, point)
	return e == api.OK && broken == -1
}

// numbered returns a name with a number of two digits: so names are in the order of their numbers.
func numbered(name string, i int) string {
	return name + "-" + strconv.Itoa(i/10) + strconv.Itoa(i%10)
}
