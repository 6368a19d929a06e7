package water

import (
	"underpin/api"
	"underpin/exact"
)

// Plan returns the linear program of how much more is to be taken out at wells so that heads keep limits (P3.6).
func Plan(n api.Net, cond []api.Frac, wells []int, limits []api.Level) (rows []api.Row, goal []api.Term, e api.Errno) {
	if e := checkWith(n, cond); e != api.OK {
		return nil, nil, e
	}
	if e := checkPlan(n, wells, limits); e != api.OK {
		return nil, nil, e
	}
	for _, node := range wells {
		rows = append(rows, api.Row{Terms: []api.Term{{Name: numbered("q", node), Coef: "-1"}}, Bound: "0"})
		goal = append(goal, api.Term{Name: numbered("q", node), Coef: "-1"})
	}
	heads, falls := spread(n, amounts(cond), wells)
	for _, limit := range limits {
		row := api.Row{Bound: api.Frac(amount(limit.Value).less(heads[limit.Node]))}
		for i, node := range wells {
			if fall := falls[i][limit.Node]; !fall.isZero() {
				row.Terms = append(row.Terms, api.Term{Name: numbered("q", node), Coef: api.Frac(amount("0").less(fall))})
			}
		}
		rows = append(rows, row)
	}
	// The rows are of the form of package exact, so that it can only find numbers that are too long.
	if e := exact.Check(rows); e != api.OK {
		return nil, nil, e
	}
	return rows, goal, api.OK
}

// Dewater returns the least amount that keeps all limits, with its proof (P3.6).
func Dewater(n api.Net, cond []api.Frac, wells []int, limits []api.Level) (api.Answer, api.Errno) {
	rows, goal, e := Plan(n, cond, wells, limits)
	if e != api.OK {
		return api.Answer{}, e
	}
	return exact.Solve(rows, goal)
}
