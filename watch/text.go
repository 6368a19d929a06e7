package watch

import (
	"slices"
	"strconv"
	"strings"

	"underpin/api"
)

// Print returns the text of a plan (P7.1).
func Print(p api.WatchPlan) (string, api.Errno) {
	if e := Check(p); e != api.OK {
		return "", e
	}
	var text strings.Builder
	line := func(words ...string) {
		text.WriteString(strings.Join(words, " ") + "\n")
	}
	number := strconv.Itoa
	for _, q := range p.Quantities {
		line("quantity", q.Name, number(q.Start.Low), number(q.Start.High), number(q.Rise), number(q.Fall), number(q.Bad))
		for _, g := range q.Gauges {
			line("gauge", g.Name, number(g.Acc), number(g.Drift), number(g.Since))
		}
	}
	for _, m := range p.Measures {
		line("measure", m.Name, m.Crew, number(m.Rank), number(m.Lag), number(m.Takes))
	}
	for _, a := range p.Alarms {
		line("alarm", p.Quantities[a.Quantity].Name, number(a.Level), number(a.Limit), p.Measures[a.Measure].Name)
	}
	if text.Len() > api.MaxText { // as the limits are, no valid plan is so long
		return "", api.ErrLimit
	}
	return text.String(), api.OK
}

// Parse returns the plan of a text, or the line that is wrong (P7.1).
func Parse(text string) (p api.WatchPlan, line int, e api.Errno) {
	if len(text) > api.MaxText {
		return api.WatchPlan{}, 0, api.ErrLimit
	}
	defer func() {
		if w, left := recover().(wrong); left {
			p, line, e = api.WatchPlan{}, w.line, w.e
		}
	}()
	r := reader{rest: text}
	r.read()
	if e := Check(r.plan); e != api.OK {
		return api.WatchPlan{}, 0, e
	}
	return r.plan, 0, api.OK
}

// wrong is what a text that goes wrong is left with.
type wrong struct {
	line int
	e    api.Errno
}

// end stands for the first word of a line if there is none left. No word has a line feed.
const end = "\n"

// maxDigits is how many digits a number of a text has at most.
const maxDigits = 10

// reader reads the lines of a plan.
type reader struct {
	rest string
	line int // the number of the line that is read
	plan api.WatchPlan
}

// read reads all lines.
func (r *reader) read() {
reading:
	for {
		switch kind, words := r.next(); kind {
		case "quantity":
			r.quantity(words)
		case "gauge":
			r.gauge(words)
		case "measure":
			r.measure(words)
		case "alarm":
			r.alarm(words)
		case end:
			break reading
		default:
			r.leave(api.ErrForm)
		}
	}
}

// next returns the first word of the next line, and the words behind it.
func (r *reader) next() (kind string, words []string) {
	if r.rest == "" {
		return end, nil
	}
	var line string
	line, r.rest, _ = strings.Cut(r.rest, "\n")
	r.line++
	all := strings.Split(line, " ")
	r.must(!slices.Contains(all, ""))
	return all[0], all[1:]
}

// leave ends reading.
func (r *reader) leave(e api.Errno) {
	panic(wrong{r.line, e})
}

// must leaves unless the line is right so far.
func (r *reader) must(right bool) {
	if !right {
		r.leave(api.ErrForm)
	}
}

func (r *reader) quantity(words []string) {
	// alarms name measures that stand ahead of them, so that none of them stands here either
	r.must(len(words) == 6 && len(r.plan.Measures) == 0)
	n := r.numbers(words[1:])
	q := api.Quantity{Name: words[0], Start: api.Span{Low: n[0], High: n[1]}, Rise: n[2], Fall: n[3], Bad: n[4]}
	r.plan.Quantities = append(r.plan.Quantities, q)
}

func (r *reader) gauge(words []string) {
	last := len(r.plan.Quantities) - 1
	r.must(len(words) == 4 && last >= 0 && len(r.plan.Measures) == 0)
	n := r.numbers(words[1:])
	q := &r.plan.Quantities[last]
	q.Gauges = append(q.Gauges, api.Gauge{Name: words[0], Acc: n[0], Drift: n[1], Since: n[2]})
}

func (r *reader) measure(words []string) {
	r.must(len(words) == 5 && len(r.plan.Alarms) == 0)
	n := r.numbers(words[2:])
	m := api.Measure{Name: words[0], Crew: words[1], Rank: n[0], Lag: n[1], Takes: n[2]}
	r.plan.Measures = append(r.plan.Measures, m)
}

func (r *reader) alarm(words []string) {
	r.must(len(words) == 4)
	n := r.numbers(words[1:3])
	a := api.Alarm{Level: n[0], Limit: n[1]}
	a.Quantity = slices.IndexFunc(r.plan.Quantities, func(q api.Quantity) bool { return q.Name == words[0] })
	a.Measure = slices.IndexFunc(r.plan.Measures, func(m api.Measure) bool { return m.Name == words[3] })
	if a.Quantity < 0 || a.Measure < 0 {
		r.leave(api.ErrNone)
	}
	r.plan.Alarms = append(r.plan.Alarms, a)
}

// numbers returns the numbers that words say.
func (r *reader) numbers(words []string) []int {
	var out []int
	for _, word := range words {
		n, err := strconv.Atoi(word)
		r.must(err == nil && strconv.Itoa(n) == word && len(strings.TrimPrefix(word, "-")) <= maxDigits)
		out = append(out, n)
	}
	return out
}
