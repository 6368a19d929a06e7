package site_test

import (
	"fmt"
	"math/rand"
	"regexp"
	"slices"
	"strings"
	"testing"

	"underpin/api"
	"underpin/exact"
	"underpin/ground"
	"underpin/site"
	"underpin/stages"
)

// TestPrintPlan: P10.1, the text of a plan.
func TestPrintPlan(t *testing.T) {
	g := groundOf(t, groundText)
	text, e := site.PrintPlan(g, examplePlan())
	equal(t, "the example", []any{text, e}, []any{planText, api.OK})
	text, e = site.PrintPlan(g, api.Excavation{})
	equal(t, "nothing", []any{text, e}, []any{"", api.OK})
	p := api.Excavation{
		Supports: []string{"b", "a", "strut-1"},
		Stages: []api.Stage{
			{Name: "x"},
			{Name: "y", Demands: []api.Row{row(t, "-1/2 b-1-0 3 b-2-1 <= -7/3"), row(t, "<= 0")}},
			{Name: "z", After: []int{1, 0}, Rests: []int{2, 0, 1}, Takes: []int{0, 2}, Sets: []int{1, 2}, Demands: []api.Row{row(t, "<= -1")}},
		},
	}
	text, e = site.PrintPlan(g, p)
	want := joined("support b", "support a", "support strut-1", "stage x", "stage y", "demand -1/2 b-1-0 3 b-2-1 <= -7/3", "demand <= 0",
		"stage z", "after y x", "rests strut-1 b a", "takes b strut-1", "sets a strut-1", "demand <= -1")
	equal(t, "all kinds of lines", []any{text, e}, []any{want, api.OK})
	back, line, e := site.ParsePlan(text)
	equal(t, "and back", []any{said(back), line, e}, []any{said(p), 0, api.OK})
}

// TestPrintPlanErrors: P10.1, the errors of CheckPlan.
func TestPrintPlanErrors(t *testing.T) {
	for _, c := range []struct {
		what   string
		change func(g *api.Ground, p *api.Excavation)
		want   api.Errno
	}{
		{"a ground that is none", func(g *api.Ground, p *api.Excavation) { g.Stations, p.Supports = nil, []string{""} }, api.ErrArg},
		{"17 supports", func(g *api.Ground, p *api.Excavation) { p.Supports = make([]string, 17) }, api.ErrLimit},
		{"a support without a name", func(g *api.Ground, p *api.Excavation) { p.Supports[0] = "" }, api.ErrName},
		{"a support with a blank", func(g *api.Ground, p *api.Excavation) { p.Supports[0] = "the wall" }, api.ErrName},
		{"a stage twice", func(g *api.Ground, p *api.Excavation) { p.Stages[1].Name = "pit" }, api.ErrTwice},
		{"a stage behind itself", func(g *api.Ground, p *api.Excavation) { p.Stages[1].After = []int{1} }, api.ErrNone},
		{"a stage behind none", func(g *api.Ground, p *api.Excavation) { p.Stages[0].After = []int{-1} }, api.ErrNone},
		{"a support that there is not", func(g *api.Ground, p *api.Excavation) { p.Stages[0].Sets = []int{1} }, api.ErrNone},
		{"an unknown that there is not", func(g *api.Ground, p *api.Excavation) { g.Layers = g.Layers[:1]; g.Sayings = nil }, api.ErrScope},
		{"a bound that is none", func(g *api.Ground, p *api.Excavation) { p.Stages[1].Demands[0].Bound = "1/1" }, api.ErrForm},
	} {
		g, p := groundOf(t, groundText), examplePlan()
		c.change(&g, &p)
		text, e := site.PrintPlan(g, p)
		equal(t, c.what, []any{text, e, stages.CheckPlan(g, p)}, []any{"", c.want, c.want})
	}
}

// wideGround is a ground with as many unknowns as can be.
func wideGround() api.Ground {
	return api.Ground{
		Stations: []int{0, 1, 2, 3, 4, 5}, Depth: "1", Layers: []string{"a", "b", "c", "d", "e", "f"},
		Traits: []api.Trait{{Name: "q", Low: "0", High: "1"}, {Name: "r", Low: "0", High: "1"}, {Name: "s", Low: "0", High: "1"}, {Name: "t", Low: "0", High: "1"}, {Name: "u", Low: "0", High: "1"}},
	}
}

// longPlan is a plan of that ground whose text would have n bytes.
func longPlan(t *testing.T, n int) api.Excavation {
	t.Helper()
	known, e := ground.Unknowns(wideGround())
	equal(t, "error", e, api.OK)
	var p api.Excavation
	size := 0
	for i := range api.MaxDigSteps {
		s := api.Stage{Name: fmt.Sprintf("s%02d", i)}
		size += len("stage s00\n")
		for range api.MaxDemands {
			demand := api.Row{Bound: "0"}
			size += len("demand <= 0\n")
			for _, name := range known[:40] {
				demand.Terms = append(demand.Terms, api.Term{Name: name, Coef: "1"})
				size += len("1 ") + len(name) + 1
			}
			s.Demands = append(s.Demands, demand)
		}
		p.Stages = append(p.Stages, s)
	}
	for i := range p.Stages {
		for k := range p.Stages[i].Demands {
			terms := p.Stages[i].Demands[k].Terms
			for m := range terms {
				zeros := min(n-size, api.MaxInput-1)
				terms[m].Coef += api.Frac(strings.Repeat("0", zeros))
				size += zeros
			}
		}
	}
	equal(t, "size", size, n)
	return p
}

// TestPlanLimits: P10.1 and R7, texts of 65536 bytes, and of one more.
func TestPlanLimits(t *testing.T) {
	g, p := wideGround(), longPlan(t, api.MaxText)
	text, e := site.PrintPlan(g, p)
	equal(t, "65536 bytes", []any{len(text), e}, []any{api.MaxText, api.OK})
	back, line, e := site.ParsePlan(text)
	equal(t, "65536 bytes and back", []any{said(back) == said(p), line, e}, []any{true, 0, api.OK})
	back, line, e = site.ParsePlan(text + "\n")
	equal(t, "65537 bytes", []any{said(back), line, e}, []any{said(api.Excavation{}), 0, api.ErrLimit})
	p = longPlan(t, api.MaxText+1)
	equal(t, "valid", stages.CheckPlan(g, p), api.OK)
	text, e = site.PrintPlan(g, p)
	equal(t, "a text of 65537 bytes", []any{text, e}, []any{"", api.ErrLimit})
	p.Stages[23].Name = "s00"
	text, e = site.PrintPlan(g, p)
	equal(t, "CheckPlan's error ahead of it", []any{text, e}, []any{"", api.ErrTwice})
	for _, bad := range []string{strings.Repeat("?\n", api.MaxText/2) + "?", strings.Repeat("s", api.MaxText+1)} {
		back, line, e = site.ParsePlan(bad)
		equal(t, "65537 bytes that are wrong", []any{said(back), line, e}, []any{said(api.Excavation{}), 0, api.ErrLimit})
		back, line, e = site.ParsePlan(bad[1:])
		equal(t, "65536 bytes that are wrong", []any{said(back), line, e}, []any{said(api.Excavation{}), 1, api.ErrForm})
	}
}

// planErrors are texts of plans that are wrong, or not.
var planErrors = []struct {
	text string
	line int
	want api.Errno
}{
	{"", 0, api.OK},
	{"support a", 0, api.OK},
	{"support a\n", 0, api.OK},
	{"\n", 1, api.ErrForm},
	{"support a\n\n", 2, api.ErrForm},
	{"support a\n\nstage", 2, api.ErrForm},
	{" ", 1, api.ErrForm},
	{"support", 1, api.ErrForm},
	{"support ", 1, api.ErrForm},
	{" support a", 1, api.ErrForm},
	{"support  a", 1, api.ErrForm},
	{"support a ", 1, api.ErrForm},
	{"support a b", 1, api.ErrForm},
	{"support\ta", 1, api.ErrForm},
	{"Support a", 1, api.ErrForm},
	{"supports a", 1, api.ErrForm},
	{"# a plan", 1, api.ErrForm},
	{"support A", 0, api.OK},
	{"support \xff\x00\té", 0, api.OK},
	{"support a\r\nsupport a\r", 0, api.OK},
	{"support a\nsupport a\nstage s\nstage s", 0, api.OK},
	{"stage", 1, api.ErrForm},
	{"stage a b", 1, api.ErrForm},
	{"stage s\nsupport a", 2, api.ErrForm},
	{"stage s\nsupport", 2, api.ErrForm},
	{"support a\nstage s\nsets a\nsupport b", 4, api.ErrForm},
	{"after s", 1, api.ErrForm},
	{"support a\nrests a", 2, api.ErrForm},
	{"support a\ntakes a", 2, api.ErrForm},
	{"support a\nsets a", 2, api.ErrForm},
	{"demand 1 x <= 1", 1, api.ErrForm},
	{"stage s\nafter", 2, api.ErrForm},
	{"support a\nstage s\nrests", 3, api.ErrForm},
	{"support a\nstage s\ntakes", 3, api.ErrForm},
	{"support a\nstage s\nsets", 3, api.ErrForm},
	{"stage s\ndemand", 2, api.ErrForm},
	{"stage s\nafter s", 2, api.ErrNone},
	{"stage s\nafter r\nstage r", 2, api.ErrNone},
	{"stage s\nafter  s", 2, api.ErrForm},
	{"stage s\nstage r\nafter s", 0, api.OK},
	{"stage s\nstage r\nafter s s", 0, api.OK},
	{"stage s\nstage r\nafter s r", 3, api.ErrNone},
	{"stage s\nstage r\nafter r s", 3, api.ErrNone},
	{"stage s\nstage r\nafter s\nafter s", 4, api.ErrForm},
	{"support a\nstage s\nstage r\nrests a\nafter s", 5, api.ErrForm},
	{"support a\nstage s\nstage r\ntakes a\nafter s", 5, api.ErrForm},
	{"support a\nstage s\ntakes a\nrests a", 4, api.ErrForm},
	{"support a\nstage s\nsets a\nrests a", 4, api.ErrForm},
	{"support a\nstage s\nsets a\ntakes a", 4, api.ErrForm},
	{"support a\nstage s\ndemand <= 1\nsets a", 4, api.ErrForm},
	{"stage s\nstage r\ndemand <= 1\nafter s", 4, api.ErrForm},
	{"support a\nstage s\nrests a\nrests a", 4, api.ErrForm},
	{"support a\nstage s\ntakes a\ntakes a", 4, api.ErrForm},
	{"support a\nstage s\nsets a\nsets a", 4, api.ErrForm},
	{"support a\nstage s\nrests a\ntakes a\nsets a\ndemand <= 1\ndemand <= 1\nstage r\nafter s\ntakes a", 0, api.OK},
	{"support a\nstage s\nrests a a", 0, api.OK},
	{"support a\nstage s\nrests b", 3, api.ErrNone},
	{"support a\nstage s\nrests a b", 3, api.ErrNone},
	{"support a\nstage s\ntakes b", 3, api.ErrNone},
	{"support a\nstage s\nsets s", 3, api.ErrNone},
	{"support a\nstage s\nstage r\nafter a", 4, api.ErrNone},
	{"support a\nstage s\nrests A\nstage", 3, api.ErrNone},
	{"support a\nstage s\nrests a\nafter A", 4, api.ErrForm},
	{"support a\nstage s\nsets b\nsupport b", 3, api.ErrNone},
	{"stage\nstage s\nafter s", 1, api.ErrForm},
	{"stage s\ndemand <= 0", 0, api.OK},
	{"stage s\ndemand 1 x 2/3 y <= -1/2", 0, api.OK},
	{"stage s\ndemand 1 x >= 1", 0, api.OK},
	{"stage s\ndemand >= 1", 0, api.OK},
	{"stage s\ndemand 1 x = 1", 2, api.ErrForm},
	{"stage s\ndemand = 1", 2, api.ErrForm},
	{"stage s\ndemand 1 x < 1", 2, api.ErrForm},
	{"stage s\ndemand 1 x <=", 2, api.ErrForm},
	{"stage s\ndemand x 1 <= 1", 2, api.ErrForm},
	{"stage s\ndemand 1 x <= 01", 2, api.ErrForm},
	{"stage s\ndemand 1 x <= 2/4", 2, api.ErrForm},
	{"stage s\ndemand 1 x <= 1.5", 2, api.ErrForm},
	{"stage s\ndemand 0 x <= 1", 2, api.ErrForm},
	{"stage s\ndemand 1 y 1 x <= 1", 2, api.ErrForm},
	{"stage s\ndemand 1 x 1 x <= 1", 2, api.ErrForm},
	{"stage s\ndemand 1 X <= 1", 2, api.ErrForm},
	{"stage s\ndemand 1 <= <= 1", 2, api.ErrForm},
	{"stage s\ndemand 1  x <= 1", 2, api.ErrForm},
	{"stage s\ndemand 1 x <= 1 ", 2, api.ErrForm},
	{"stage s\ndemand 1 x <= 999999999999", 0, api.OK},
	{"stage s\ndemand 1 x <= 1000000000000", 2, api.ErrForm},
	{"stage s\ndemand 1/1000000000000 x <= 1", 2, api.ErrForm},
	{"stage s\ndemand 1 b-9-9 <= 1", 0, api.OK},
}

// TestParsePlan: P10.1, the first line that is wrong, and how.
func TestParsePlan(t *testing.T) {
	p, line, e := site.ParsePlan(planText)
	equal(t, "the example", []any{said(p), line, e}, []any{said(examplePlan()), 0, api.OK})
	p, line, e = site.ParsePlan(strings.TrimSuffix(planText, "\n"))
	equal(t, "without the last line feed", []any{said(p), line, e}, []any{said(examplePlan()), 0, api.OK})
	for _, c := range planErrors {
		parses(t, func(text string) (any, int, api.Errno) { return third(site.ParsePlan(text)) }, c.text, c.line, c.want)
	}
}

// TestParsePlanNumbers: P10.1, a name is the number of the first thing with it, and rows are those of exact.Parse.
func TestParsePlanNumbers(t *testing.T) {
	p := planOf(t, "support a\nsupport b\nsupport a\nsupport A\nstage s\nstage S\nstage s\nafter s S\nrests a b A\ntakes A a\nsets b b\ndemand 2 x >= 1\ndemand -1 x <= 3\n")
	want := api.Excavation{
		Supports: []string{"a", "b", "a", "A"},
		Stages: []api.Stage{{Name: "s"}, {Name: "S"}, {
			Name: "s", After: []int{0, 1}, Rests: []int{0, 1, 3}, Takes: []int{3, 0}, Sets: []int{1, 1},
			Demands: []api.Row{row(t, "-2 x <= -1"), row(t, "-1 x <= 3")},
		}},
	}
	equal(t, "numbers", said(p), said(want))
	p = planOf(t, "stage s\nstage s\nafter s\nstage s\nafter s\n")
	equal(t, "ahead of it", said(p), said(api.Excavation{Stages: []api.Stage{{Name: "s"}, {Name: "s", After: []int{0}}, {Name: "s", After: []int{0}}}}))
	equal(t, "memory", sharesItself(p), false)
}

// randomPlan is a plan that is valid on the ground of the example.
func randomPlan(r *rand.Rand) api.Excavation {
	var p api.Excavation
	for k := range r.Intn(5) {
		p.Supports = append(p.Supports, fmt.Sprintf("%c-%d", 'a'+r.Intn(3), k))
	}
	some := func(n int) []int {
		if n == 0 || r.Intn(2) == 0 {
			return nil
		}
		return r.Perm(n)[:r.Intn(n)]
	}
	for i := range r.Intn(6) {
		s := api.Stage{Name: fmt.Sprintf("s%d", i), After: some(i), Rests: some(len(p.Supports)), Takes: some(len(p.Supports)), Sets: some(len(p.Supports))}
		for range r.Intn(3) {
			demand := api.Row{Bound: fraction(r)}
			for _, name := range []string{"b-1-0", "b-1-1", "b-2-0", "b-2-1"} {
				if c := fraction(r); c != "0" && r.Intn(2) == 0 {
					demand.Terms = append(demand.Terms, api.Term{Name: name, Coef: c})
				}
			}
			s.Demands = append(s.Demands, demand)
		}
		p.Stages = append(p.Stages, s)
	}
	return p
}

// fraction is a small number.
func fraction(r *rand.Rand) api.Frac {
	a, e := exact.Div(exact.Int(int64(r.Intn(19)-9)), exact.Int(int64(1+r.Intn(4))))
	if e != api.OK {
		panic(e)
	}
	return a
}

// TestPlanThereAndBack: P10.4, the text of a plan is parsed as that plan.
func TestPlanThereAndBack(t *testing.T) {
	r := rand.New(rand.NewSource(1))
	g := groundOf(t, groundText)
	for range 1000 {
		p := randomPlan(r)
		ahead := said(p)
		text, e := site.PrintPlan(g, p)
		equal(t, "PrintPlan", []any{e, said(p)}, []any{api.OK, ahead})
		back, line, e := site.ParsePlan(text)
		equal(t, text, []any{said(back), line, e}, []any{ahead, 0, api.OK})
		equal(t, "memory", sharesItself(back), false)
		again, e := site.PrintPlan(g, back)
		equal(t, "again", []any{again, e}, []any{text, api.OK})
	}
}

// planForms are the forms of lines of plans, each with the letter of where it may stand.
var planForms = map[string]*regexp.Regexp{
	"H": regexp.MustCompile(`^support [^ ]+$`),
	"I": regexp.MustCompile(`^stage [^ ]+$`),
	"a": regexp.MustCompile(`^after( [^ ]+)+$`),
	"r": regexp.MustCompile(`^rests( [^ ]+)+$`),
	"t": regexp.MustCompile(`^takes( [^ ]+)+$`),
	"s": regexp.MustCompile(`^sets( [^ ]+)+$`),
	"d": regexp.MustCompile(`^demand ([^ ]+ [^ ]+ )*(<=|>=) [^ ]+$`),
}

// letterOf is the letter of a line's form, or none.
func letterOf(forms map[string]*regexp.Regexp, line string) string {
	for letter, form := range forms {
		if form.MatchString(line) {
			return letter
		}
	}
	return ""
}

// linesOf are the lines of a text.
func linesOf(text string) []string {
	l := strings.Split(text, "\n")
	if l[len(l)-1] == "" {
		l = l[:len(l)-1]
	}
	return l
}

// planError tells the first line that is wrong, by regular expressions.
func planError(text string) (int, api.Errno) {
	order := regexp.MustCompile(`^H*(Ia?r?t?s?d*)*$`)
	letters, supports, all := "", []string{}, []string{}
	for i, line := range linesOf(text) {
		letter := letterOf(planForms, line)
		letters += letter
		right := letter != "" && order.MatchString(letters)
		if letter == "d" {
			l, _, e := exact.Parse(strings.TrimPrefix(line, "demand ") + "\n")
			right = right && e == api.OK && len(l) == 1
		}
		if !right {
			return i + 1, api.ErrForm
		}
		words := strings.Split(line, " ")[1:]
		known := supports
		switch letter {
		case "H":
			supports = append(supports, words[0])
			continue
		case "I":
			all = append(all, words[0])
			continue
		case "d":
			continue
		case "a":
			known = all[:len(all)-1]
		}
		if slices.ContainsFunc(words, func(word string) bool { return !slices.Contains(known, word) }) {
			return i + 1, api.ErrNone
		}
	}
	return 0, api.OK
}

// changed is a text some of whose lines and words are others.
func changed(r *rand.Rand, text string, words []string) string {
	lines := strings.SplitAfter(text, "\n")
	for range r.Intn(3) {
		if len(lines) == 0 {
			break
		}
		i, k := r.Intn(len(lines)), r.Intn(len(lines))
		switch r.Intn(5) {
		case 0:
			lines[i], lines[k] = lines[k], lines[i]
		case 1:
			lines = slices.Insert(lines, i, lines[k])
		case 2:
			lines = without(lines, i)
		default:
			w := strings.Split(strings.TrimSuffix(lines[i], "\n"), " ")
			switch at := r.Intn(len(w)); r.Intn(4) {
			case 0:
				w = without(w, at)
			case 1:
				w = slices.Insert(w, at, words[r.Intn(len(words))])
			default:
				w[at] = words[r.Intn(len(words))]
			}
			lines[i] = strings.Join(w, " ") + "\n"
		}
	}
	return strings.Join(lines, "")
}

// TestParsePlanByWords: P10.1, texts whose lines and words are changed, against regular expressions.
func TestParsePlanByWords(t *testing.T) {
	r := rand.New(rand.NewSource(2))
	words := []string{"support", "stage", "after", "rests", "takes", "sets", "demand", "a-0", "b-1", "s0", "s1", "s2", "x", "0", "-1", "7/3", "<=", ">=", "=", "", "01"}
	counts := map[api.Errno]int{}
	g := groundOf(t, groundText)
	for range 5000 {
		text, e := site.PrintPlan(g, randomPlan(r))
		equal(t, "PrintPlan", e, api.OK)
		text = changed(r, text, words)
		line, want := planError(text)
		p, at, e := site.ParsePlan(text)
		equal(t, fmt.Sprintf("%q", text), []any{at, e}, []any{line, want})
		counts[e]++
		if e != api.OK {
			equal(t, "with an error", said(p), said(api.Excavation{}))
		}
	}
	for _, e := range []api.Errno{api.OK, api.ErrForm, api.ErrNone} {
		if counts[e] < 100 {
			t.Error("too few:", e, counts)
		}
	}
}
