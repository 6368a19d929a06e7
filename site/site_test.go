package site_test

import (
	"fmt"
	"reflect"
	"strings"
	"testing"

	"underpin/api"
	"underpin/site"
	"underpin/stages"
)

// TestNew: P10.2, a new site has nothing, and knows nothing of others.
func TestNew(t *testing.T) {
	s, other := site.New(), site.New()
	for _, s := range []*site.Site{s, other} {
		d, is := s.Dig("d")
		equal(t, "a new site", []any{len(s.Names()), len(s.Papers()), said(d), is}, []any{0, 0, said(api.Dig{}), false})
	}
	answers(t, s, "audit", "audit: good 0")
	does(t, s, block("ground g", groundText))
	answers(t, s, "most g 1 b-1-0", "most: 4 [0]")
	equal(t, "the other one", []any{len(other.Names()), len(other.Papers())}, []any{0, 0})
	refuses(t, other, "most g 1 b-1-0", api.ErrNone)
}

// TestNil: R3, sites that are none.
func TestNil(t *testing.T) {
	copied := *full(t)
	for what, s := range map[string]*site.Site{"nil": nil, "a zero struct": {}, "new": new(site.Site), "a copy": &copied} {
		for _, text := range []string{"audit", "", block("ground x", groundText), strings.Repeat("?", api.MaxText+1)} {
			answer, e := s.Do(text)
			equal(t, what, []any{answer, e}, []any{"", api.ErrNil})
		}
		d, is := s.Dig("d")
		equal(t, what, []any{len(s.Names()), len(s.Papers()), said(d), is}, []any{0, 0, said(api.Dig{}), false})
	}
}

// TestNames: P10.2, names in the order in which they were given.
func TestNames(t *testing.T) {
	s := full(t)
	want := []string{"g", "h", "no", "p", "w", "r", "c", "f", "half", "fact", "j", "d"}
	equal(t, "names", s.Names(), want)
	does(t, s, "dig a h p")
	refuses(t, s, "dig b h h", api.ErrNone)
	does(t, s, block("job zz", ""))
	does(t, s, "observe d top cut 10 clay 1 2")
	want = append(want, "a", "zz")
	equal(t, "more names", s.Names(), want)
	got := s.Names()
	spoilAll(got)
	equal(t, "memory", s.Names(), want)
}

// TestDig: P10.2, the dig with a name, as far as it is.
func TestDig(t *testing.T) {
	s := full(t)
	want, e := stages.New(groundOf(t, groundText), examplePlan())
	equal(t, "New", e, api.OK)
	for _, x := range []struct {
		line string
		deed api.Deed
	}{
		{"", api.Deed{}},
		{"verify d pit", api.Deed{Kind: api.DeVerify}},
		{"start d pit", api.Deed{Kind: api.DeBegin}},
		{"finish d pit", api.Deed{Kind: api.DeDone}},
		{"verify d floor", api.Deed{Kind: api.DeVerify, Stage: 1}},
		{"observe d top cut 5 clay 2 3", api.Deed{Kind: api.DeObserve, Saying: api.Saying{Name: "cut", Kind: api.SaTop, X: 5, Layer: 1, Low: "2", High: "3"}}},
		{"retract d bh", api.Deed{Kind: api.DeRetract, Name: "bh"}},
	} {
		if x.line != "" {
			does(t, s, x.line)
			want, e = stages.Apply(want, x.deed)
			equal(t, x.line, e, api.OK)
		}
		d, is := s.Dig("d")
		equal(t, x.line, []any{said(d), is, stages.Check(d)}, []any{said(want), true, api.OK})
		equal(t, "memory", []any{sharesItself(d)}, []any{false})
		spoilAll(&d)
		d, is = s.Dig("d")
		equal(t, "memory", []any{said(d), is}, []any{said(want), true})
	}
	for _, name := range []string{"", "D", "d ", "e", "g", "h", "p", "w", "r", "c", "f", "j", strings.Repeat("d", 99)} {
		d, is := s.Dig(name)
		equal(t, fmt.Sprintf("Dig(%q)", name), []any{said(d), is}, []any{said(api.Dig{}), false})
	}
}

// TestMemory: R4, what a site gives out is not what it keeps, and no two papers have memory in common.
func TestMemory(t *testing.T) {
	s := full(t)
	for _, line := range []string{block("job k", "task a 1\ntask b 2\nneeds a\n"), "schedule k", "schedule k", "schedule j", "schedule j", "verify d pit", "retract d bh", "observe d top cut 0 clay 1 2", "verify d pit", "start d pit", "retract d cut",
		"observe d top cut 0 clay 1 2", "verify d pit", "most g 1 b-1-0 -1 b-2-0", "most no 1 b-1-0", "dig e g p", "verify e pit", "verify e floor"} {
		does(t, s, line)
	}
	ahead := all(s)
	papers, again := s.Papers(), s.Papers()
	d, _ := s.Dig("d")
	e, _ := s.Dig("d")
	equal(t, "memory of one result", []any{sharesItself(papers), sharesItself(d)}, []any{false, false})
	equal(t, "memory of two results", []any{shares(papers, again), shares(d, e), shares(d, papers), shares(s.Names(), s.Names())}, []any{false, false, false, false})
	spoilAll(papers, &d)
	equal(t, "what is left", []any{all(s), said(again), said(e)}, []any{ahead, said(s.Papers()), said(lastDig(s))})
	answers(t, s, "audit", "audit: good 11")
}

// lastDig is the dig d of a site.
func lastDig(s *site.Site) api.Dig {
	d, _ := s.Dig("d")
	return d
}

// TestShares: the tests' own shares and sharesItself see memory.
func TestShares(t *testing.T) {
	a := []int{1, 2}
	p := api.Paper{Starts: a}
	q := api.Paper{Job: api.Job{Tasks: []api.Task{{Needs: a[1:]}}}}
	equal(t, "shares", []any{shares(p, q), shares(p, api.Paper{Starts: []int{1, 2}}), shares([]api.Paper{p}, []api.Paper{q})}, []any{true, false, true})
	q.Starts = a
	equal(t, "sharesItself", []any{sharesItself(p), sharesItself(q), sharesItself([]api.Paper{p, p})}, []any{false, true, true})
	spoil(reflect.ValueOf(&q))
	equal(t, "spoil", a, []int{-99, -99})
}

// TestRun: P10.2, scripts.
func TestRun(t *testing.T) {
	for _, c := range []struct {
		what, text string
		want       []string
	}{
		{"nothing", "", nil},
		{"an empty line", "\n", nil},
		{"nothing but empty lines and remarks", "\n\n# audit\n#\n#audit\n##\n", nil},
		{"a line", "audit", []string{"audit: good 0"}},
		{"a line and a line feed", "audit\n", []string{"audit: good 0"}},
		{"lines", "audit\n\naudit\n# no\naudit", []string{"audit: good 0", "audit: good 0", "audit: good 0"}},
		{"lines that are wrong", " \naudit \n # no\nend\nmaker\nMake\nmakes x\n\r\nend\nmak\n", strings.Fields(strings.Repeat("error_4 ", 10))},
		{"a block", block("ground g", groundText) + "\nmost g 1 b-1-0\n", []string{"made g", "most: 4 [0]"}},
		{"a block at the end", "audit\n" + block("ground g", groundText), []string{"audit: good 0", "made g"}},
		{"blocks one behind the other", "make record a\nend\nmake record b\nend\nmake record b\nend\nseal b", []string{"made a", "made b", "error 6", "seal: 0"}},
		{"a block of no kind", "make\naudit\nend\naudit", []string{"error 4", "audit: good 0"}},
		{"other blocks of no kind", "make \naudit\nend\nmake x y\nmake record a\nend\nend\nseal a", []string{"error 4", "error 4", "error 4", "error 7"}},
		{"a block in a block", "make record a\nmake record b\nend\nseal b\nseal a", []string{"error 4", "error 7", "error 7"}},
		{"remarks in blocks", "make record a\n# a remark\nend\nmake record b\n#\nend\nseal b", []string{"error 4", "error 4", "error 7"}},
		{"empty lines in blocks", "make record a\n\nend\nmake record b\n5 met clay ann 8\n\nend\nmake record c\n5 met clay ann 8\nend", []string{"error 4", "error 4", "made c"}},
		{"ends that are none", "make record a\n5 met clay ann 8\nend \nend\nmake record a\n end\nEnd\nend\nmake record a\nend", []string{"error 4", "error 4", "made a"}},
		{"all errors of a block", "make watch w\nquantity sink 1 0 0 0 0\nend\nlate w\nmake watch w\nend\nlate w", []string{"error 1", "error 7", "made w", "late:"}},
	} {
		for i := range c.want {
			c.want[i] = strings.ReplaceAll(c.want[i], "_", " ")
		}
		got, papers, e := site.Run(c.text)
		equal(t, c.what, e, api.OK)
		equal(t, c.what, got, c.want)
		equal(t, c.what, len(papers), strings.Count(strings.Join(got, " "), "["))
	}
}

// TestRunErrors: P10.2, scripts that are not done.
func TestRunErrors(t *testing.T) {
	for _, c := range []struct {
		what, text string
		want       api.Errno
	}{
		{"a block without its end", "make record a", api.ErrForm},
		{"a block without its end, behind lines", "audit\nmake record a\n5 met clay ann 8\n", api.ErrForm},
		{"a block of no kind without its end", "make\n", api.ErrForm},
		{"another block of no kind without its end", "make x\nend \n", api.ErrForm},
		{"the last block lacks its end", "make record a\nend\nmake record b\n", api.ErrForm},
		{"1025 lines", strings.Repeat("audit\n", 1025), api.ErrLimit},
		{"1025 empty lines", strings.Repeat("\n", 1025), api.ErrLimit},
		{"1025 lines, the last one without a line feed", strings.Repeat("\n", 1024) + "#", api.ErrLimit},
		{"1025 lines of a block without its end", "make record a\n" + strings.Repeat("\n", 1024), api.ErrLimit},
		{"65537 bytes", "#" + strings.Repeat("x", api.MaxText), api.ErrLimit},
		{"65537 bytes of a block without its end", "make " + strings.Repeat("x", api.MaxText-4), api.ErrLimit},
		{"65536 bytes of a block without its end", "make " + strings.Repeat("x", api.MaxText-5), api.ErrForm},
		{"1024 lines of a block without its end", "make record a\n" + strings.Repeat("\n", 1023), api.ErrForm},
	} {
		got, papers, e := site.Run(c.text)
		equal(t, c.what, []any{len(got), len(papers), e}, []any{0, 0, c.want})
	}
	got, _, e := site.Run(strings.Repeat("audit\n", 1024))
	equal(t, "1024 lines", []any{len(got), e}, []any{1024, api.OK})
	got, _, e = site.Run(strings.Repeat("audit\n", 1023) + "audit")
	equal(t, "1024 lines, the last one without a line feed", []any{len(got), e}, []any{1024, api.OK})
	got, _, e = site.Run("audit\n#" + strings.Repeat("x", api.MaxText-7))
	equal(t, "65536 bytes", []any{got, e}, []any{[]string{"audit: good 0"}, api.OK})
}

// TestRunIsDo: P10.2, a script does what its lines and blocks do, one by one.
func TestRunIsDo(t *testing.T) {
	lines := append(blocks(), "dig d g p", "verify d floor", "verify d pit", "most g 1 b-1-0", "start d pit", "start d pit", "schedule j", "make record f\nend", "seal f", "audit")
	s := site.New()
	var want []string
	for _, line := range lines {
		answer, e := s.Do(line)
		if e != api.OK {
			answer = fmt.Sprint("error ", int(e))
		}
		want = append(want, answer)
	}
	got, papers, e := site.Run("# a script\n\n" + strings.Join(lines, "\n\n# remark\n") + "\n")
	equal(t, "answers", []any{got, e}, []any{want, api.OK})
	equal(t, "papers", said(papers), said(s.Papers()))
	equal(t, "memory", []any{sharesItself(papers), len(papers)}, []any{false, 4})
}

// TestExamples: P10.2, the chapter's examples.
func TestExamples(t *testing.T) {
	first := joined(block("ground g", groundText), "most g 1 b-1-0")
	then := joined(block("plan p", planText), "dig d g p", "verify d pit", "start d pit", "finish d pit", "ready d")
	last := joined("verify d floor", "retract d bh", "audit")
	want := []string{"made g", "most: 4 [0]", "made p", "dig d: 2 stages", "d: verified [1]", "d: started", "d: finished", "ready:",
		"d: verified [2]", "d: retracted, shaken 1", "audit: good 3"}
	for _, c := range []struct {
		text          string
		lines, papers int
	}{{first, 2, 1}, {first + then, 8, 2}, {first + then + last, 11, 3}} {
		got, papers, e := site.Run(c.text)
		equal(t, "the example", []any{got, len(papers), e}, []any{want[:c.lines], c.papers, api.OK})
		for _, p := range papers {
			equal(t, "good", site.Verify(p), api.OK)
		}
	}
}
