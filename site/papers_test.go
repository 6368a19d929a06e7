package site_test

import (
	"fmt"
	"math/rand"
	"slices"
	"strings"
	"testing"

	"underpin/api"
	"underpin/exact"
	"underpin/site"
	"underpin/works"
)

// mostPaper is a paper of the rows x at most 3, -x at most 0, and the goal 2 x.
func mostPaper() api.Paper {
	x := func(coef, bound api.Frac) api.Row {
		return api.Row{Terms: []api.Term{{Name: "x", Coef: coef}}, Bound: bound}
	}
	return api.Paper{
		Kind: api.PaMost, Rows: []api.Row{x("1", "3"), x("-1", "0")}, Goal: []api.Term{{Name: "x", Coef: "2"}},
		Answer: api.Answer{Kind: api.AnBest, Value: "6", Point: []api.Value{{Name: "x", Value: "3"}}, Weights: []api.Frac{"2", "0"}},
	}
}

// emptyPaper is a paper of rows that no point keeps, freePaper one of a goal without a greatest value.
func emptyPaper() api.Paper {
	p := mostPaper()
	p.Rows[1].Bound = "-4"
	p.Answer = api.Answer{Kind: api.AnEmpty, Weights: []api.Frac{"1", "1"}}
	return p
}

func freePaper() api.Paper {
	p := mostPaper()
	p.Goal[0].Coef = "-1"
	p.Rows = p.Rows[:1]
	p.Answer = api.Answer{Kind: api.AnFree, Ray: []api.Value{{Name: "x", Value: "-1"}}}
	return p
}

// stagePaper is a paper of two demands, of which rows are the proof.
func stagePaper() api.Paper {
	p := mostPaper()
	return api.Paper{
		Kind: api.PaStage, Rows: p.Rows,
		Demands: []api.Row{{Terms: []api.Term{{Name: "x", Coef: "2"}}, Bound: "7"}, {Terms: []api.Term{{Name: "x", Coef: "-1"}}, Bound: "0"}},
		Proofs:  [][]api.Frac{{"2", "0"}, {"0", "1"}},
	}
}

// schedulePaper is a paper of the job of chapter 8.
func schedulePaper() api.Paper {
	return api.Paper{Kind: api.PaSchedule, Job: exampleJob(), Starts: []int{0, 4, 7}, Floor: api.Floor{Minutes: 9}}
}

// TestVerify: P10.1, papers that are good, and what makes them bad.
func TestVerify(t *testing.T) {
	for _, c := range []struct {
		what   string
		paper  api.Paper
		change func(p *api.Paper)
		want   api.Errno
	}{
		{"most", mostPaper(), func(p *api.Paper) {}, api.OK},
		{"most: another value", mostPaper(), func(p *api.Paper) { p.Answer.Value = "5" }, api.ErrState},
		{"most: another point", mostPaper(), func(p *api.Paper) { p.Answer.Point[0].Value = "2" }, api.ErrState},
		{"most: other weights", mostPaper(), func(p *api.Paper) { p.Answer.Weights[1] = "1" }, api.ErrState},
		{"most: no weights", mostPaper(), func(p *api.Paper) { p.Answer.Weights = nil }, api.ErrState},
		{"most: other rows", mostPaper(), func(p *api.Paper) { p.Rows[0].Bound = "4" }, api.ErrState},
		{"most: another goal", mostPaper(), func(p *api.Paper) { p.Goal[0].Coef = "3" }, api.ErrState},
		{"most: another unknown", mostPaper(), func(p *api.Paper) { p.Goal[0].Name = "y" }, api.ErrState},
		{"most: a row that is none", mostPaper(), func(p *api.Paper) { p.Rows[1].Bound = "" }, api.ErrState},
		{"most: a goal that is none", mostPaper(), func(p *api.Paper) { p.Goal[0].Coef = "0" }, api.ErrState},
		{"most: too many rows", mostPaper(), func(p *api.Paper) { p.Rows = make([]api.Row, 801) }, api.ErrState},
		{"most: no answer", mostPaper(), func(p *api.Paper) { p.Answer.Kind = api.AnNone }, api.ErrState},
		{"most: an answer of no kind", mostPaper(), func(p *api.Paper) { p.Answer.Kind = 4 }, api.ErrState},
		{"most: an answer of another kind", mostPaper(), func(p *api.Paper) { p.Answer.Kind = api.AnEmpty }, api.ErrState},
		{"most: what it does not name", mostPaper(), func(p *api.Paper) {
			p.Answer.Ray = []api.Value{{}}
			p.Demands, p.Proofs, p.Job.Tasks, p.Starts, p.Floor = make([]api.Row, 2), make([][]api.Frac, 1), make([]api.Task, 99), []int{-1}, api.Floor{Minutes: 99}
		}, api.OK},
		{"empty", emptyPaper(), func(p *api.Paper) {}, api.OK},
		{"empty: a row that may be kept", emptyPaper(), func(p *api.Paper) { p.Rows[0].Bound = "4" }, api.ErrState},
		{"empty: a weight below 0", emptyPaper(), func(p *api.Paper) { p.Answer.Weights[0] = "-1" }, api.ErrState},
		{"free", freePaper(), func(p *api.Paper) {}, api.OK},
		{"free: another goal", freePaper(), func(p *api.Paper) { p.Goal[0].Coef = "1" }, api.ErrState},
		{"free: no ray", freePaper(), func(p *api.Paper) { p.Answer.Ray = nil }, api.ErrState},
		{"nothing to prove", api.Paper{Kind: api.PaMost}, func(p *api.Paper) { p.Answer = api.Answer{Kind: api.AnBest, Value: "0"} }, api.OK},
		{"nothing at all", api.Paper{Kind: api.PaMost}, func(p *api.Paper) {}, api.ErrState},

		{"stage", stagePaper(), func(p *api.Paper) {}, api.OK},
		{"stage: the first demand", stagePaper(), func(p *api.Paper) { p.Demands[0].Bound = "5" }, api.ErrState},
		{"stage: the second demand", stagePaper(), func(p *api.Paper) { p.Demands[1].Bound = "-1" }, api.ErrState},
		{"stage: the first proof", stagePaper(), func(p *api.Paper) { p.Proofs[0][0] = "1" }, api.ErrState},
		{"stage: the second proof", stagePaper(), func(p *api.Paper) { p.Proofs[1] = p.Proofs[1][1:] }, api.ErrState},
		{"stage: no weights", stagePaper(), func(p *api.Paper) { p.Proofs[1][0] = "x" }, api.ErrState},
		{"stage: a proof less", stagePaper(), func(p *api.Paper) { p.Proofs = p.Proofs[:1] }, api.ErrState},
		{"stage: a proof more", stagePaper(), func(p *api.Paper) { p.Proofs = append(p.Proofs, p.Proofs[0]) }, api.ErrState},
		{"stage: no proofs", stagePaper(), func(p *api.Paper) { p.Proofs = nil }, api.ErrState},
		{"stage: a demand less", stagePaper(), func(p *api.Paper) { p.Demands = p.Demands[:1] }, api.ErrState},
		{"stage: no demands", stagePaper(), func(p *api.Paper) { p.Demands = nil }, api.ErrState},
		{"stage: the other way round", stagePaper(), func(p *api.Paper) { slices.Reverse(p.Proofs) }, api.ErrState},
		{"stage: other rows", stagePaper(), func(p *api.Paper) { p.Rows[0].Bound = "4" }, api.ErrState},
		{"stage: a row that is none", stagePaper(), func(p *api.Paper) { p.Rows[0].Terms[0].Name = "X" }, api.ErrState},
		{"stage: a demand that is none", stagePaper(), func(p *api.Paper) { p.Demands[1].Terms[0].Coef = "-1/1" }, api.ErrState},
		{"stage: nothing is demanded", stagePaper(), func(p *api.Paper) { p.Demands, p.Proofs = nil, nil }, api.OK},
		{"stage: nothing is demanded, rows that are none", stagePaper(), func(p *api.Paper) { p.Demands, p.Proofs, p.Rows = nil, nil, make([]api.Row, 801) }, api.OK},
		{"stage: more than is demanded", stagePaper(), func(p *api.Paper) { p.Demands[0].Bound = "6" }, api.OK},
		{"stage: what it does not name", stagePaper(), func(p *api.Paper) {
			p.Goal, p.Answer, p.Job.Tasks, p.Starts, p.Floor = make([]api.Term, 2), api.Answer{Kind: 9}, make([]api.Task, 99), []int{-1}, api.Floor{Minutes: 99}
		}, api.OK},
		{"stage: of rows that nothing keeps", emptyPaper(), func(p *api.Paper) {
			p.Kind, p.Demands, p.Proofs = api.PaStage, []api.Row{{Bound: "-9"}}, [][]api.Frac{{"1", "1"}}
		}, api.OK},

		{"schedule", schedulePaper(), func(p *api.Paper) {}, api.OK},
		{"schedule: a start", schedulePaper(), func(p *api.Paper) { p.Starts[2] = 5 }, api.ErrState},
		{"schedule: a start less", schedulePaper(), func(p *api.Paper) { p.Starts = p.Starts[:2] }, api.ErrState},
		{"schedule: a later start", schedulePaper(), func(p *api.Paper) { p.Starts[2] = 8 }, api.OK},
		{"schedule: a lower floor", schedulePaper(), func(p *api.Paper) { p.Floor.Minutes = 8 }, api.OK},
		{"schedule: a higher floor", schedulePaper(), func(p *api.Paper) { p.Floor.Minutes = 10 }, api.ErrState},
		{"schedule: another resource", schedulePaper(), func(p *api.Paper) { p.Floor.Resource = 1 }, api.ErrState},
		{"schedule: a chain", schedulePaper(), func(p *api.Paper) { p.Floor = api.Floor{Minutes: 8, Chain: []int{0, 1, 2}, Resource: 7} }, api.OK},
		{"schedule: a chain that is none", schedulePaper(), func(p *api.Paper) { p.Floor = api.Floor{Minutes: 7, Chain: []int{0, 2}} }, api.ErrState},
		{"schedule: no floor", schedulePaper(), func(p *api.Paper) { p.Floor = api.Floor{Resource: -1} }, api.OK},
		{"schedule: a job that is none", schedulePaper(), func(p *api.Paper) { p.Job.Tasks[0].Name = "" }, api.ErrState},
		{"schedule: another job", schedulePaper(), func(p *api.Paper) { p.Job.Resources[0].Off[0].High = 7 }, api.ErrState},
		{"schedule: what it does not name", schedulePaper(), func(p *api.Paper) {
			p.Rows, p.Goal, p.Answer, p.Demands, p.Proofs = make([]api.Row, 801), make([]api.Term, 2), api.Answer{Kind: 9}, make([]api.Row, 1), make([][]api.Frac, 3)
		}, api.OK},
		{"a schedule of nothing", api.Paper{Kind: api.PaSchedule}, func(p *api.Paper) {}, api.OK},
		{"a schedule of nothing, and a floor", api.Paper{Kind: api.PaSchedule}, func(p *api.Paper) { p.Floor.Minutes = 1 }, api.ErrState},

		{"none", mostPaper(), func(p *api.Paper) { p.Kind = api.PaNone }, api.ErrArg},
		{"no kind", mostPaper(), func(p *api.Paper) { p.Kind = api.PaSchedule + 1 }, api.ErrArg},
		{"no kind, and bad", mostPaper(), func(p *api.Paper) { p.Kind, p.Rows = 255, make([]api.Row, 801) }, api.ErrArg},
		{"nothing", api.Paper{}, func(p *api.Paper) {}, api.ErrArg},
	} {
		p := c.paper
		c.change(&p)
		ahead := said(p)
		equal(t, c.what, []any{site.Verify(p), said(p)}, []any{c.want, ahead})
	}
}

// TestVerifyByWords: P10.1, papers made of anything are good just as the chapter says.
func TestVerifyByWords(t *testing.T) {
	r := rand.New(rand.NewSource(5))
	makers := []func() api.Paper{mostPaper, emptyPaper, freePaper, stagePaper, schedulePaper}
	pick := func() api.Paper { return makers[r.Intn(len(makers))]() }
	numbers := []api.Frac{"0", "1", "2", "-1", "3", "6", "1/2", "x"}
	count := map[string]int{}
	for range 20000 {
		p := pick()
		p.Kind = api.PaperKind(1 + r.Intn(3))
		for range r.Intn(3) {
			q, n := pick(), numbers[r.Intn(len(numbers))]
			switch r.Intn(9) {
			case 0:
				p.Rows = q.Rows
			case 1:
				p.Goal = q.Goal
			case 2:
				p.Answer = q.Answer
			case 3:
				p.Demands = q.Demands
			case 4:
				p.Proofs = q.Proofs
			case 5:
				p.Job, p.Starts = q.Job, []int{r.Intn(2), 4 + r.Intn(2), 6 + r.Intn(3)}
			case 6:
				p.Floor = api.Floor{Minutes: r.Intn(12), Resource: r.Intn(2)}
			case 7:
				if len(p.Proofs) > 0 {
					p.Proofs[0][r.Intn(2)] = n
				}
			case 8:
				if len(p.Rows) > 0 {
					p.Rows[r.Intn(len(p.Rows))].Bound = n
				}
			}
		}
		want := api.ErrState
		if isGood(p) {
			want = api.OK
		}
		equal(t, said(p), site.Verify(p), want)
		count[fmt.Sprint(p.Kind, want)]++
	}
	for kind := 1; kind <= 3; kind++ {
		for _, e := range []api.Errno{api.OK, api.ErrState} {
			if count[fmt.Sprint(kind, e)] < 100 {
				t.Error("too few:", kind, e, count)
			}
		}
	}
}

// isGood tells whether a paper is good, by the chapter's words.
func isGood(p api.Paper) bool {
	switch p.Kind {
	case api.PaMost:
		return exact.Verify(p.Rows, p.Goal, p.Answer) == api.OK
	case api.PaStage:
		good := len(p.Demands) == len(p.Proofs)
		for i := range min(len(p.Demands), len(p.Proofs)) {
			yes, e := exact.CheckImplied(p.Rows, p.Demands[i], p.Proofs[i])
			good = good && yes && e == api.OK
		}
		return good
	}
	keeps, e := works.Keeps(p.Job, p.Starts)
	proves, f := works.Proves(p.Job, p.Floor)
	length, h := works.Length(p.Job, p.Starts)
	return keeps && proves && length >= p.Floor.Minutes && e == api.OK && f == api.OK && h == api.OK
}

// TestPapersOfSite: P10.3 and P0.7, the papers of a site say what it answered, and are good wherever they are verified.
func TestPapersOfSite(t *testing.T) {
	s := full(t)
	answers(t, s, "most g 1 b-1-0", "most: 4 [0]")
	answers(t, s, "most no -1 b-2-1 1 b-1-0", "most: none [1]")
	answers(t, s, "verify d pit", "d: verified [2]")
	answers(t, s, "schedule j", "schedule: 10 of at least 9 [3]")
	answers(t, s, "verify d floor", "d: verified [4]")
	l := s.Papers()
	equal(t, "papers", len(l), 5)
	for i, p := range l {
		equal(t, fmt.Sprint("paper ", i), []any{site.Verify(p), sharesItself(p)}, []any{api.OK, false})
	}
	rows := said(rowsOf(t, groundOf(t, groundText)))
	equal(t, "most", []any{l[0].Kind, said(l[0].Rows), l[0].Goal, l[0].Answer.Kind, l[0].Answer.Value}, []any{api.PaMost, rows, []api.Term{{Name: "b-1-0", Coef: "1"}}, api.AnBest, api.Frac("4")})
	goal := []api.Term{{Name: "b-1-0", Coef: "1"}, {Name: "b-2-1", Coef: "-1"}}
	equal(t, "none", []any{said(l[1].Rows), l[1].Goal, l[1].Answer.Kind}, []any{said(rowsOf(t, groundOf(t, clashText))), goal, api.AnEmpty})
	equal(t, "pit", []any{l[2].Kind, said(l[2].Rows), said(l[2].Demands), len(l[2].Proofs)}, []any{api.PaStage, rows, said(examplePlan().Stages[0].Demands), 1})
	d, _ := s.Dig("d")
	equal(t, "its proofs", said(l[2].Proofs), said(d.Marks[0].Proofs))
	equal(t, "floor", []any{said(l[4].Rows), said(l[4].Demands), said(l[4].Proofs)}, []any{rows, said(examplePlan().Stages[1].Demands), said(d.Marks[1].Proofs)})
	floor, _ := works.Least(exampleJob())
	equal(t, "schedule", []any{l[3].Kind, said(l[3].Job), l[3].Starts, said(l[3].Floor)}, []any{api.PaSchedule, said(exampleJob()), []int{0, 4, 7}, said(floor)})
	for i, p := range l { // what a paper's kind does not name is zero
		rest := p
		switch p.Kind {
		case api.PaMost:
			rest.Rows, rest.Goal, rest.Answer = nil, nil, api.Answer{}
		case api.PaStage:
			rest.Rows, rest.Demands, rest.Proofs = nil, nil, nil
		default:
			rest.Job, rest.Starts, rest.Floor = api.Job{}, nil, api.Floor{}
		}
		equal(t, fmt.Sprint("the rest of paper ", i), said(rest), said(api.Paper{Kind: p.Kind}))
	}
	text := strings.Join(blocks(), "\n") + "\ndig d g p\nmost g 1 b-1-0\nmost no -1 b-2-1 1 b-1-0\nverify d pit\nschedule j\nverify d floor\n"
	_, again, e := site.Run(text)
	equal(t, "the same by Run", []any{said(again), e}, []any{said(l), api.OK})
}
