package site

import (
	"slices"

	"underpin/api"
	"underpin/exact"
	"underpin/works"
)

// Verify reports whether a paper is good, without searching (P10.1).
func Verify(p api.Paper) api.Errno {
	var good bool
	switch p.Kind {
	case api.PaMost:
		good = exact.Verify(p.Rows, p.Goal, p.Answer) == api.OK
	case api.PaStage:
		good = provesStage(p)
	case api.PaSchedule:
		good = provesSchedule(p)
	default:
		return api.ErrArg
	}
	if !good {
		return api.ErrState
	}
	return api.OK
}

// provesStage tells whether each demand of a paper has a proof.
func provesStage(p api.Paper) bool {
	if len(p.Proofs) != len(p.Demands) {
		return false
	}
	for i, demand := range p.Demands {
		if holds, e := exact.CheckImplied(p.Rows, demand, p.Proofs[i]); e != api.OK || !holds {
			return false
		}
	}
	return true
}

// provesSchedule tells whether the schedule of a paper keeps its job, and is not shorter than its floor, which is proved.
func provesSchedule(p api.Paper) bool {
	if keeps, e := works.Keeps(p.Job, p.Starts); e != api.OK || !keeps {
		return false
	}
	if proved, e := works.Proves(p.Job, p.Floor); e != api.OK || !proved {
		return false
	}
	length, e := works.Length(p.Job, p.Starts)
	return e == api.OK && length >= p.Floor.Minutes
}

// copiedPaper returns a paper in memory of its own.
func copiedPaper(p api.Paper) api.Paper {
	p.Rows, p.Goal, p.Demands = each(p.Rows, copiedRow), slices.Clone(p.Goal), each(p.Demands, copiedRow)
	p.Answer.Point, p.Answer.Ray, p.Answer.Weights = slices.Clone(p.Answer.Point), slices.Clone(p.Answer.Ray), slices.Clone(p.Answer.Weights)
	p.Proofs = each(p.Proofs, slices.Clone[[]api.Frac])
	p.Job, p.Starts, p.Floor.Chain = copiedJob(p.Job), slices.Clone(p.Starts), slices.Clone(p.Floor.Chain)
	return p
}

// copiedRow returns a row in memory of its own.
func copiedRow(row api.Row) api.Row {
	row.Terms = slices.Clone(row.Terms)
	return row
}

// copiedJob returns a job in memory of its own.
func copiedJob(j api.Job) api.Job {
	j.Tasks = each(j.Tasks, func(t api.Task) api.Task {
		t.Needs, t.Uses = slices.Clone(t.Needs), slices.Clone(t.Uses)
		return t
	})
	j.Resources = each(j.Resources, func(r api.Resource) api.Resource {
		r.Off = slices.Clone(r.Off)
		return r
	})
	return j
}
