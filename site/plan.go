package site

import (
	"strings"

	"underpin/api"
	"underpin/exact"
	"underpin/stages"
)

// ParsePlan returns the plan of a text, or the line that is wrong (P10.1).
func ParsePlan(text string) (p api.Excavation, line int, e api.Errno) {
	return parse(text, planForms())
}

// planForms returns the kinds of lines of plans by their first words.
func planForms() map[string]form[api.Excavation] {
	return map[string]form[api.Excavation]{
		"support": {rank: headRank, read: readSupport},
		"stage":   {rank: itemRank, read: readStage},
		"after":   {rank: itemRank + 1, read: readAfter},
		"rests":   {rank: itemRank + 2, read: readSupports(func(s *api.Stage) *[]int { return &s.Rests })},
		"takes":   {rank: itemRank + 3, read: readSupports(func(s *api.Stage) *[]int { return &s.Takes })},
		"sets":    {rank: itemRank + 4, read: readSupports(func(s *api.Stage) *[]int { return &s.Sets })},
		"demand":  {rank: itemRank + 5, many: true, read: readDemand},
	}
}

func readSupport(p *api.Excavation, words []string) {
	need(len(words) == 1, api.ErrForm)
	p.Supports = append(p.Supports, words[0])
}

func readStage(p *api.Excavation, words []string) {
	need(len(words) == 1, api.ErrForm)
	p.Stages = append(p.Stages, api.Stage{Name: words[0]})
}

func readAfter(p *api.Excavation, words []string) {
	last := len(p.Stages) - 1
	p.Stages[last].After = numbersIn(stageNames(p.Stages[:last]), words)
}

// readSupports returns what reads a list of supports of a stage.
func readSupports(of func(s *api.Stage) *[]int) func(p *api.Excavation, words []string) {
	return func(p *api.Excavation, words []string) {
		*of(&p.Stages[len(p.Stages)-1]) = numbersIn(p.Supports, words)
	}
}

func readDemand(p *api.Excavation, words []string) {
	rows, _, e := exact.Parse(strings.Join(words, " "))
	need(e == api.OK && len(rows) == 1, api.ErrForm)
	s := &p.Stages[len(p.Stages)-1]
	s.Demands = append(s.Demands, rows[0])
}

// stageNames returns the names of stages.
func stageNames(l []api.Stage) []string {
	return each(l, func(s api.Stage) string { return s.Name })
}

// PrintPlan returns the text of a plan (P10.1).
func PrintPlan(g api.Ground, p api.Excavation) (string, api.Errno) {
	if e := stages.CheckPlan(g, p); e != api.OK {
		return "", e
	}
	var out page
	for _, name := range p.Supports {
		out.line("support", name)
	}
	stage := func(i int) string { return p.Stages[i].Name }
	support := func(i int) string { return p.Supports[i] }
	for _, s := range p.Stages {
		out.line("stage", s.Name)
		out.lineOf("after", each(s.After, stage))
		out.lineOf("rests", each(s.Rests, support))
		out.lineOf("takes", each(s.Takes, support))
		out.lineOf("sets", each(s.Sets, support))
		for _, demand := range s.Demands {
			row, e := exact.Print([]api.Row{demand})
			if e != api.OK {
				return "", e
			}
			out.line("demand", strings.TrimSuffix(row, "\n"))
		}
	}
	return out.all()
}
