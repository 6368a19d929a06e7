package site_test

import (
	"fmt"
	"math/rand"
	"regexp"
	"slices"
	"strings"
	"testing"

	"underpin/api"
	"underpin/site"
	"underpin/works"
)

// TestPrintJob: P10.1, the text of a job.
func TestPrintJob(t *testing.T) {
	text, e := site.PrintJob(exampleJob())
	equal(t, "the example", []any{text, e}, []any{jobText, api.OK})
	text, e = site.PrintJob(api.Job{})
	equal(t, "nothing", []any{text, e}, []any{"", api.OK})
	j := api.Job{
		Resources: []api.Resource{
			{Name: "b", Many: 0},
			{Name: "a-1", Many: 1000, Off: []api.Span{{Low: 0, High: 0}, {Low: 2, High: 7}, {Low: 100000, High: 100000}}},
		},
		Tasks: []api.Task{
			{Name: "z", Takes: 100000},
			{Name: "y", Takes: 0, Uses: []api.Use{{Resource: 1, Many: 1000}}},
			{Name: "x", Takes: 7, Needs: []int{1, 0}},
			{Name: "w", Takes: 7, Needs: []int{2}, Uses: []api.Use{{Resource: 1, Many: 3}}},
		},
	}
	text, e = site.PrintJob(j)
	want := joined("resource b 0", "resource a-1 1000 0 0 2 7 100000 100000", "task z 100000", "task y 0", "uses a-1 1000",
		"task x 7", "needs y z", "task w 7", "needs x", "uses a-1 3")
	equal(t, "all kinds of lines", []any{text, e}, []any{want, api.OK})
	j.Resources[0].Many = 5
	j.Tasks[3].Uses = append(j.Tasks[3].Uses, api.Use{Resource: 0, Many: 5})
	text, e = site.PrintJob(j)
	want = strings.Replace(strings.Replace(want, "a-1 3", "a-1 3 b 5", 1), "b 0", "b 5", 1)
	equal(t, "two uses", []any{text, e}, []any{want, api.OK})
	back, line, e := site.ParseJob(text)
	equal(t, "and back", []any{said(back), line, e}, []any{said(j), 0, api.OK})
}

// TestPrintJobErrors: P10.1, the errors of works.Check, then ErrScope.
func TestPrintJobErrors(t *testing.T) {
	for _, c := range []struct {
		what   string
		change func(j *api.Job)
		want   api.Errno
	}{
		{"17 resources", func(j *api.Job) { j.Resources = make([]api.Resource, 17) }, api.ErrLimit},
		{"a resource without a name", func(j *api.Job) { j.Resources[0].Name = "" }, api.ErrName},
		{"a task twice", func(j *api.Job) { j.Tasks[2].Name = "drill" }, api.ErrTwice},
		{"a task that takes too long", func(j *api.Job) { j.Tasks[2].Takes = 100001 }, api.ErrArg},
		{"a need that there is not", func(j *api.Job) { j.Tasks[2].Needs = []int{3} }, api.ErrNone},
		{"a resource that there is not", func(j *api.Job) { j.Tasks[2].Uses = []api.Use{{Resource: 1, Many: 1}} }, api.ErrNone},
		{"more pieces than there are", func(j *api.Job) { j.Tasks[2].Uses[0].Many = 2 }, api.ErrScope},
		{"a circle", func(j *api.Job) { j.Tasks[0].Needs = []int{2} }, api.ErrLoop},
		{"a task that needs itself", func(j *api.Job) { j.Tasks[0].Needs = []int{0} }, api.ErrLoop},
	} {
		j := exampleJob()
		c.change(&j)
		text, e := site.PrintJob(j)
		equal(t, c.what, []any{text, e, works.Check(j)}, []any{"", c.want, c.want})
	}
	j := exampleJob()
	j.Tasks[1].Needs = []int{2}
	j.Tasks[2].Needs = nil
	text, e := site.PrintJob(j)
	equal(t, "a task that needs one behind it", []any{text, e, works.Check(j)}, []any{"", api.ErrScope, api.OK})
	j.Tasks[1].Needs = []int{0, 2}
	text, e = site.PrintJob(j)
	equal(t, "the second need stands behind it", []any{text, e}, []any{"", api.ErrScope})
	j = api.Job{Tasks: []api.Task{{Name: "a", Needs: []int{1}}, {Name: "b"}}}
	text, e = site.PrintJob(j)
	equal(t, "the first task needs the second one", []any{text, e}, []any{"", api.ErrScope})
	j.Tasks[1].Name = "B"
	text, e = site.PrintJob(j)
	equal(t, "Check's error ahead of it", []any{text, e}, []any{"", api.ErrName})
}

// TestLongestJob: P10.1, the largest job that may be has a text still.
func TestLongestJob(t *testing.T) {
	var j api.Job
	for i := range api.MaxResources {
		r := api.Resource{Name: fmt.Sprintf("abcdefghijklmn%02d", i), Many: api.MaxMany}
		for k := range api.MaxOffs {
			r.Off = append(r.Off, api.Span{Low: 99900 + 2*k, High: 99900 + 2*k})
		}
		j.Resources = append(j.Resources, r)
	}
	for i := range api.MaxTasks {
		task := api.Task{Name: fmt.Sprintf("abcdefghijklmn%02d", i), Takes: api.MaxTime}
		for k := range i {
			task.Needs = append(task.Needs, i-1-k)
		}
		for k := range api.MaxResources {
			task.Uses = append(task.Uses, api.Use{Resource: k, Many: api.MaxMany})
		}
		j.Tasks = append(j.Tasks, task)
	}
	text, e := site.PrintJob(j)
	equal(t, "the largest job", []any{len(text) > 60000, e}, []any{true, api.OK})
	back, line, e := site.ParseJob(text)
	equal(t, "and back", []any{said(back) == said(j), line, e}, []any{true, 0, api.OK})
	long := text + strings.Repeat("task "+strings.Repeat("x", 80)+" 1\n", 80)[:api.MaxText-len(text)]
	_, line, e = site.ParseJob(long)
	equal(t, "65536 bytes", e == api.ErrLimit, false)
	back, line, e = site.ParseJob(long + "?")
	equal(t, "65537 bytes", []any{said(back), line, e}, []any{said(api.Job{}), 0, api.ErrLimit})
}

// jobErrors are texts of jobs that are wrong, or not.
var jobErrors = []struct {
	text string
	line int
	want api.Errno
}{
	{"", 0, api.OK},
	{"\n", 1, api.ErrForm},
	{" ", 1, api.ErrForm},
	{"resource a 1", 0, api.OK},
	{"resource a 1\n\n", 2, api.ErrForm},
	{"resource A -1", 0, api.OK},
	{"resource \xff\x00\té 1", 0, api.OK},
	{"resource a 1\nresource a 1\ntask b 1\ntask b 1", 0, api.OK},
	{"resource", 1, api.ErrForm},
	{"resource a", 1, api.ErrForm},
	{"resource a b", 1, api.ErrForm},
	{"resource  1", 1, api.ErrForm},
	{"resource a  1", 1, api.ErrForm},
	{"resource a 1 ", 1, api.ErrForm},
	{" resource a 1", 1, api.ErrForm},
	{"Resource a 1", 1, api.ErrForm},
	{"resources a 1", 1, api.ErrForm},
	{"# a job", 1, api.ErrForm},
	{"resource a 1 2", 1, api.ErrForm},
	{"resource a 1 2 3", 0, api.OK},
	{"resource a 1 2 3 4", 1, api.ErrForm},
	{"resource a 1 3 2 -4 -5", 0, api.OK},
	{"resource a 1 2 x", 1, api.ErrForm},
	{"resource a 1 x 2", 1, api.ErrForm},
	{"resource a x 1 2", 1, api.ErrForm},
	{"resource a 1\n5 6", 2, api.ErrForm},
	{"resource a 9999999999 -9999999999 0", 0, api.OK},
	{"task a 1\nresource b 1", 2, api.ErrForm},
	{"task a 1\nresource b", 2, api.ErrForm},
	{"task", 1, api.ErrForm},
	{"task a", 1, api.ErrForm},
	{"task a b", 1, api.ErrForm},
	{"task a 1 2", 1, api.ErrForm},
	{"task a -7", 0, api.OK},
	{"task a 1 needs b", 1, api.ErrForm},
	{"needs a", 1, api.ErrForm},
	{"resource a 1\nneeds a", 2, api.ErrForm},
	{"uses a 1", 1, api.ErrForm},
	{"resource a 1\nuses a 1", 2, api.ErrForm},
	{"task a 1\nneeds", 2, api.ErrForm},
	{"task a 1\nneeds a", 2, api.ErrNone},
	{"task a 1\nneeds b\ntask b 1", 2, api.ErrNone},
	{"task a 1\ntask b 1\nneeds a", 0, api.OK},
	{"task a 1\ntask b 1\nneeds a a", 0, api.OK},
	{"task a 1\ntask b 1\nneeds a b", 3, api.ErrNone},
	{"task a 1\ntask b 1\nneeds b a", 3, api.ErrNone},
	{"task a 1\ntask b 1\nneeds  a", 3, api.ErrForm},
	{"task a 1\ntask b 1\nneeds A", 3, api.ErrNone},
	{"task a 1\ntask b 1\nneeds 0", 3, api.ErrNone},
	{"task a 1\ntask b 1\nneeds a\nneeds a", 4, api.ErrForm},
	{"resource r 1\ntask a 1\ntask b 1\nuses r 1\nneeds a", 5, api.ErrForm},
	{"resource r 1\ntask a 1\ntask b 1\nneeds a\nuses r 1", 0, api.OK},
	{"resource r 1\ntask a 1\nuses r 1\nuses r 1", 4, api.ErrForm},
	{"resource r 1\ntask a 1\nuses", 3, api.ErrForm},
	{"resource r 1\ntask a 1\nuses r", 3, api.ErrForm},
	{"resource r 1\ntask a 1\nuses r x", 3, api.ErrForm},
	{"resource r 1\ntask a 1\nuses r 1 r", 3, api.ErrForm},
	{"resource r 1\ntask a 1\nuses r 1 2", 3, api.ErrForm},
	{"resource r 1\ntask a 1\nuses r 1 r 2", 0, api.OK},
	{"resource r 1\ntask a 1\nuses 1 r", 3, api.ErrForm},
	{"resource r 1\ntask a 1\nuses s 1", 3, api.ErrNone},
	{"resource r 1\ntask a 1\nuses a 1", 3, api.ErrNone},
	{"resource r 1\ntask a 1\nuses r 1 s 1", 3, api.ErrNone},
	{"resource r 1\ntask a 1\nuses s x", 3, api.ErrForm},
	{"resource r 1\ntask a 1\nuses s 1 r x", 3, api.ErrForm},
	{"resource r 1\ntask a 1\nuses s 1\nuses", 3, api.ErrNone},
	{"resource r 1\ntask a 1\nuses r 0\ntask b 1\nneeds r", 5, api.ErrNone},
}

// parseJob is ParseJob.
func parseJob(text string) (any, int, api.Errno) { return third(site.ParseJob(text)) }

// TestParseJob: P10.1, the first line that is wrong, and how.
func TestParseJob(t *testing.T) {
	j, line, e := site.ParseJob(jobText)
	equal(t, "the example", []any{said(j), line, e}, []any{said(exampleJob()), 0, api.OK})
	for _, c := range jobErrors {
		parses(t, parseJob, c.text, c.line, c.want)
	}
	for _, bad := range badNumbers {
		parses(t, parseJob, "resource a "+bad, 1, api.ErrForm)
		parses(t, parseJob, "resource a 1 2 "+bad, 1, api.ErrForm)
		parses(t, parseJob, "task a "+bad, 1, api.ErrForm)
		parses(t, parseJob, "resource r 1\ntask a 1\nuses r "+bad, 3, api.ErrForm)
	}
	for _, name := range badNames {
		parses(t, parseJob, "resource "+name+" 1\ntask "+name+" 0\nuses "+name+" 1\ntask "+name+" 3\nneeds "+name, 0, api.OK)
	}
}

// TestParseJobNumbers: P10.1, a name is the number of the first thing with it.
func TestParseJobNumbers(t *testing.T) {
	j := jobOf(t, "resource a 1 5 4\nresource b -2\nresource a 3\ntask s 1\ntask S 9999999999\ntask s 2\nneeds S s S\nuses b 1 a -1 b 2\ntask s 0\nneeds s\n")
	want := api.Job{
		Resources: []api.Resource{{Name: "a", Many: 1, Off: []api.Span{{Low: 5, High: 4}}}, {Name: "b", Many: -2}, {Name: "a", Many: 3}},
		Tasks: []api.Task{
			{Name: "s", Takes: 1}, {Name: "S", Takes: 9999999999},
			{Name: "s", Takes: 2, Needs: []int{1, 0, 1}, Uses: []api.Use{{Resource: 1, Many: 1}, {Resource: 0, Many: -1}, {Resource: 1, Many: 2}}},
			{Name: "s", Needs: []int{0}},
		},
	}
	equal(t, "numbers", said(j), said(want))
	equal(t, "memory", sharesItself(j), false)
}

// randomJob is a job that is valid, and whose tasks need those ahead of them alone.
func randomJob(r *rand.Rand) api.Job {
	var j api.Job
	for i := range r.Intn(4) {
		x := api.Resource{Name: fmt.Sprintf("r%d", i), Many: 1 + r.Intn(3)}
		at := r.Intn(4)
		for range r.Intn(4) {
			x.Off = append(x.Off, api.Span{Low: at, High: at + r.Intn(3)})
			at += 3 + r.Intn(5)
		}
		j.Resources = append(j.Resources, x)
	}
	for i := range r.Intn(6) {
		x := api.Task{Name: fmt.Sprintf("t%d", i), Takes: r.Intn(5)}
		x.Needs = r.Perm(i)[:r.Intn(i+1)/2]
		for _, k := range r.Perm(len(j.Resources))[:r.Intn(len(j.Resources)+1)] {
			x.Uses = append(x.Uses, api.Use{Resource: k, Many: 1 + r.Intn(j.Resources[k].Many)})
		}
		j.Tasks = append(j.Tasks, x)
	}
	return j
}

// TestJobThereAndBack: P10.4, the text of a job is parsed as that job.
func TestJobThereAndBack(t *testing.T) {
	r := rand.New(rand.NewSource(3))
	for range 1000 {
		j := randomJob(r)
		ahead := said(j)
		text, e := site.PrintJob(j)
		equal(t, "PrintJob", []any{e, said(j)}, []any{api.OK, ahead})
		back, line, e := site.ParseJob(text)
		equal(t, text, []any{said(back), line, e}, []any{ahead, 0, api.OK})
		equal(t, "memory", sharesItself(back), false)
	}
}

// jobForms are the forms of lines of jobs, each with the letter of where it may stand.
var jobForms = map[string]*regexp.Regexp{
	"H": regexp.MustCompile(`^resource [^ ]+ N( N N)*$`),
	"I": regexp.MustCompile(`^task [^ ]+ N$`),
	"n": regexp.MustCompile(`^needs( [^ ]+)+$`),
	"u": regexp.MustCompile(`^uses( [^ ]+ N)+$`),
}

// jobError tells the first line that is wrong, by regular expressions. No name is a number.
func jobError(text string) (int, api.Errno) {
	order := regexp.MustCompile(`^H*(In?u?)*$`)
	number := regexp.MustCompile(`^(0|-?[1-9][0-9]{0,9})$`)
	letters, resources, tasks := "", []string{}, []string{}
	for i, line := range linesOf(text) {
		words := strings.Split(line, " ")
		named := slices.Clone(words)
		for k := range words {
			if number.MatchString(words[k]) {
				named[k] = "N"
			}
		}
		letter := letterOf(jobForms, strings.Join(named, " "))
		letters += letter
		if letter == "" || !order.MatchString(letters) {
			return i + 1, api.ErrForm
		}
		switch letter {
		case "H":
			resources = append(resources, words[1])
		case "I":
			tasks = append(tasks, words[1])
		case "n":
			if slices.ContainsFunc(words[1:], func(word string) bool { return !slices.Contains(tasks[:len(tasks)-1], word) }) {
				return i + 1, api.ErrNone
			}
		case "u":
			for k := 1; k < len(words); k += 2 {
				if !slices.Contains(resources, words[k]) {
					return i + 1, api.ErrNone
				}
			}
		}
	}
	return 0, api.OK
}

// TestParseJobByWords: P10.1, texts whose lines and words are changed, against regular expressions.
func TestParseJobByWords(t *testing.T) {
	r := rand.New(rand.NewSource(4))
	words := []string{"resource", "task", "needs", "uses", "r0", "r1", "t0", "t1", "x", "0", "-1", "12345678901", "1234567890", "-1234567890", "", "01"}
	counts := map[api.Errno]int{}
	for range 5000 {
		text, e := site.PrintJob(randomJob(r))
		equal(t, "PrintJob", e, api.OK)
		text = changed(r, text, words)
		line, want := jobError(text)
		j, at, e := site.ParseJob(text)
		equal(t, fmt.Sprintf("%q", text), []any{at, e}, []any{line, want})
		counts[e]++
		if e != api.OK {
			equal(t, "with an error", said(j), said(api.Job{}))
		}
	}
	for _, e := range []api.Errno{api.OK, api.ErrForm, api.ErrNone} {
		if counts[e] < 100 {
			t.Error("too few:", e, counts)
		}
	}
}
