package site

import (
	"slices"
	"strconv"

	"underpin/api"
	"underpin/works"
)

// ParseJob returns the job of a text, or the line that is wrong (P10.1).
func ParseJob(text string) (j api.Job, line int, e api.Errno) {
	return parse(text, jobForms())
}

// jobForms returns the kinds of lines of jobs by their first words.
func jobForms() map[string]form[api.Job] {
	return map[string]form[api.Job]{
		"resource": {rank: headRank, read: readResource},
		"task":     {rank: itemRank, read: readTask},
		"needs":    {rank: itemRank + 1, read: readNeeds},
		"uses":     {rank: itemRank + 2, read: readUses},
	}
}

func readResource(j *api.Job, words []string) {
	need(len(words) >= 2 && len(words)%2 == 0, api.ErrForm)
	n := numbersOf(words[1:])
	r := api.Resource{Name: words[0], Many: n[0]}
	for off := range slices.Chunk(n[1:], 2) {
		r.Off = append(r.Off, api.Span{Low: off[0], High: off[1]})
	}
	j.Resources = append(j.Resources, r)
}

func readTask(j *api.Job, words []string) {
	need(len(words) == 2, api.ErrForm)
	j.Tasks = append(j.Tasks, api.Task{Name: words[0], Takes: numbersOf(words[1:])[0]})
}

func readNeeds(j *api.Job, words []string) {
	last := len(j.Tasks) - 1
	names := each(j.Tasks[:last], func(t api.Task) string { return t.Name })
	j.Tasks[last].Needs = numbersIn(names, words)
}

func readUses(j *api.Job, words []string) {
	need(len(words)%2 == 0, api.ErrForm)
	var resources, numbers []string
	for pair := range slices.Chunk(words, 2) {
		resources, numbers = append(resources, pair[0]), append(numbers, pair[1])
	}
	many := numbersOf(numbers) // ahead of the names: the form decides first
	names := each(j.Resources, func(r api.Resource) string { return r.Name })
	t := &j.Tasks[len(j.Tasks)-1]
	for i, resource := range numbersIn(names, resources) {
		t.Uses = append(t.Uses, api.Use{Resource: resource, Many: many[i]})
	}
}

// PrintJob returns the text of a job (P10.1).
func PrintJob(j api.Job) (string, api.Errno) {
	if e := works.Check(j); e != api.OK {
		return "", e
	}
	for i, t := range j.Tasks {
		if slices.ContainsFunc(t.Needs, func(other int) bool { return other >= i }) {
			return "", api.ErrScope
		}
	}
	var out page
	number := strconv.Itoa
	for _, r := range j.Resources {
		words := []string{r.Name, number(r.Many)}
		for _, off := range r.Off {
			words = append(words, number(off.Low), number(off.High))
		}
		out.line("resource", words...)
	}
	for _, t := range j.Tasks {
		out.line("task", t.Name, number(t.Takes))
		out.lineOf("needs", each(t.Needs, func(i int) string { return j.Tasks[i].Name }))
		out.lineOf("uses", each(t.Uses, func(u api.Use) string { return list(j.Resources[u.Resource].Name, number(u.Many)) }))
	}
	return out.all() // as the limits are, no valid job has too long a text
}
