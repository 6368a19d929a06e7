package stages

import (
	"slices"

	"underpin/api"
	"underpin/exact"
	"underpin/ground"
)

// CheckPlan returns the first error of a plan on a ground (P6.1).
func CheckPlan(g api.Ground, p api.Excavation) api.Errno {
	known, e := ground.Unknowns(g)
	if e != api.OK {
		return e
	}
	if len(p.Supports) > api.MaxSupports {
		return api.ErrLimit
	}
	if e := checkList(p.Supports, isName, api.ErrName); e != api.OK {
		return e
	}
	if len(p.Stages) > api.MaxDigSteps {
		return api.ErrLimit
	}
	for i := range p.Stages {
		if e := checkStage(known, p, i); e != api.OK {
			return e
		}
	}
	return api.OK
}

// checkStage returns the error of a stage; the supports, and the stages ahead of it, have none.
func checkStage(known []string, p api.Excavation, i int) api.Errno {
	s := p.Stages[i]
	if !isName(s.Name) {
		return api.ErrName
	}
	if slices.ContainsFunc(p.Stages[:i], func(ahead api.Stage) bool { return ahead.Name == s.Name }) {
		return api.ErrTwice
	}
	if e := checkList(s.After, below(i), api.ErrNone); e != api.OK {
		return e
	}
	for _, supports := range [][]int{s.Rests, s.Takes, s.Sets} {
		if e := checkList(supports, below(len(p.Supports)), api.ErrNone); e != api.OK {
			return e
		}
	}
	if len(s.Demands) > api.MaxDemands {
		return api.ErrLimit
	}
	for _, demand := range s.Demands {
		if e := checkRow(known, demand); e != api.OK {
			return e
		}
	}
	return api.OK
}

// checkList returns the error of the first element of a list that has one: wrong if it is not one of the right ones,
// ErrTwice if it stands in the list already.
func checkList[T comparable](list []T, isRight func(T) bool, wrong api.Errno) api.Errno {
	for i, x := range list {
		if !isRight(x) {
			return wrong
		}
		if slices.Contains(list[:i], x) {
			return api.ErrTwice
		}
	}
	return api.OK
}

// below returns what tells whether a number is one of the first n ones.
func below(n int) func(int) bool {
	return func(k int) bool { return k >= 0 && k < n }
}

// isName tells whether a text is a name. Names of terms are names like all others, so that exact is asked.
func isName(text string) bool {
	_, e := exact.Sum([]api.Term{{Name: text, Coef: "1"}}, nil)
	return e == api.OK
}

// checkRow returns the error of a row in unknowns of a ground.
func checkRow(known []string, row api.Row) api.Errno {
	if e := exact.Check([]api.Row{row}); e != api.OK {
		return e
	}
	for _, t := range row.Terms {
		if !slices.Contains(known, t.Name) {
			return api.ErrScope
		}
	}
	return api.OK
}

// Check returns the first error of a dig (P6.1).
func Check(d api.Dig) api.Errno {
	if e := CheckPlan(d.Ground, d.Plan); e != api.OK {
		return e
	}
	if len(d.Marks) != len(d.Plan.Stages) || len(d.Standing) != len(d.Plan.Supports) {
		return api.ErrArg
	}
	rows, e := ground.Rows(d.Ground)
	if e != api.OK {
		return e
	}
	for i := range d.Marks {
		if e := checkMark(d, rows, i); e != api.OK {
			return e
		}
	}
	return api.OK
}

// checkMark returns the error of a stage's mark, by the rows of the ground.
func checkMark(d api.Dig, rows []api.Row, i int) api.Errno {
	s, m := d.Plan.Stages[i], d.Marks[i]
	begun := m.State == api.SgBegun || m.State == api.SgDone
	switch {
	case m.State > api.SgDone, m.Shaken && !begun:
		return api.ErrArg
	case isUnproved(m) && len(m.Proofs) > 0:
		return api.ErrArg
	case begun && !areDone(d, s.After):
		return api.ErrState
	case isUnproved(m):
		return api.OK
	}
	return checkProofs(rows, s.Demands, m.Proofs)
}

// isUnproved tells whether a stage is waiting or shaken.
func isUnproved(m api.StageMark) bool {
	return m.State == api.SgWaiting || m.Shaken
}

// areDone tells whether stages are done.
func areDone(d api.Dig, stages []int) bool {
	return all(stages, func(k int) bool { return d.Marks[k].State == api.SgDone })
}

// all tells whether something is so with all elements of a list.
func all[T any](list []T, is func(T) bool) bool {
	return !slices.ContainsFunc(list, func(x T) bool { return !is(x) })
}

// checkProofs returns ErrSum unless there is a proof that holds for each demand.
func checkProofs(rows, demands []api.Row, proofs [][]api.Frac) api.Errno {
	if len(proofs) != len(demands) {
		return api.ErrSum
	}
	for i, demand := range demands {
		holds, e := exact.CheckImplied(rows, demand, proofs[i])
		if e != api.OK {
			return e
		}
		if !holds {
			return api.ErrSum
		}
	}
	return api.OK
}

// checkModels returns ErrClash if a ground, which has no error, allows no model.
func checkModels(g api.Ground) api.Errno {
	most, e := ground.Most(g, nil)
	if e == api.OK && most.Kind == api.AnEmpty {
		return api.ErrClash
	}
	return e
}

// checkBegin returns the error with which a stage that is verified may not begin on a ground that allows a model.
func checkBegin(d api.Dig, i int) api.Errno {
	s := d.Plan.Stages[i]
	stands := func(k int) bool { return d.Standing[k] }
	switch {
	case slices.ContainsFunc(d.Marks, func(m api.StageMark) bool { return m.Shaken }):
		return api.ErrScope
	case !areDone(d, s.After):
		return api.ErrLoop
	case isDisturbed(d, s):
		return api.ErrTwice
	case !all(s.Rests, stands), !all(s.Takes, stands):
		return api.ErrArg
	}
	return api.OK
}

// isDisturbed tells whether a stage and another one, which has begun and is not done, may not go on beside each other:
// one of them takes what the other one rests on.
func isDisturbed(d api.Dig, s api.Stage) bool {
	for i, other := range d.Plan.Stages {
		if d.Marks[i].State == api.SgBegun && (meet(other.Takes, s.Rests) || meet(s.Takes, other.Rests)) {
			return true
		}
	}
	return false
}

// meet tells whether two lists have a number in common.
func meet(a, b []int) bool {
	return slices.ContainsFunc(a, func(k int) bool { return slices.Contains(b, k) })
}
