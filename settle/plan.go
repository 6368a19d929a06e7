package settle

import (
	"underpin/api"
	"underpin/exact"
)

// Plan returns the linear program of how much is to be grouted so that all buildings stay in a class (P5.4).
func Plan(r api.Route, pads []api.Pad, class int) (rows []api.Row, goal []api.Term, e api.Errno) {
	if e := checkPlan(r, pads, class); e != api.OK {
		return nil, nil, e
	}
	for k, pad := range pads {
		name := numbered("g", k)
		rows = append(rows,
			api.Row{Terms: []api.Term{{Name: name, Coef: "-1"}}, Bound: "0"},
			api.Row{Terms: []api.Term{{Name: name, Coef: "1"}}, Bound: pad.Most})
		goal = append(goal, api.Term{Name: name, Coef: "-1"})
	}
	for house := range r.Houses {
		rows = append(rows, held(r, pads, r.Limits[class], house)...)
	}
	// The rows are of the form of package exact, so that it can only find numbers that are too long.
	if e := exact.Check(rows); e != api.OK {
		return nil, nil, e
	}
	return rows, goal, api.OK
}

// held returns the rows that say that grouting holds the tilt of a building between minus a limit and the limit.
func held(r api.Route, pads []api.Pad, limit api.Frac, house int) []api.Row {
	tilt := tiltOf(r, house)
	up := api.Row{Bound: total([]api.Frac{limit}, []api.Frac{"-1", tilt[upper]})}
	down := api.Row{Bound: total([]api.Frac{limit}, []api.Frac{tilt[lower]})}
	for k, pad := range pads {
		// What a pad lifts is off the sinking, so that it tilts a building the other way.
		back := troughOf(pad.X, pad.Half).tilting(r.Houses[house])
		if back == "0" {
			continue
		}
		name := numbered("g", k)
		up.Terms = append(up.Terms, api.Term{Name: name, Coef: product("-1", back)})
		down.Terms = append(down.Terms, api.Term{Name: name, Coef: back})
	}
	return []api.Row{up, down}
}

// Grout returns the least amount of grouting that holds all buildings in a class, with its proof (P5.4).
func Grout(r api.Route, pads []api.Pad, class int) (api.Answer, api.Errno) {
	rows, goal, e := Plan(r, pads, class)
	if e != api.OK {
		return api.Answer{}, e
	}
	return exact.Solve(rows, goal)
}
