package site

import (
	"cmp"
	"slices"
	"strconv"

	"underpin/api"
	"underpin/claims"
	"underpin/ground"
	"underpin/stages"
	"underpin/watch"
	"underpin/works"
)

// parsed returns what came of a text: the error that came, if there is one.
func parsed[T any](x T, _ int, e api.Errno) T {
	must(e)
	return x
}

// made keeps the thing that the line makes, and returns the answer of a block.
func (t *turn) made(x thing) string {
	t.site.named = append(t.site.named, named{t.words[0], x})
	return list("made", t.words[0])
}

func (t *turn) makeGround() string {
	return t.made(groundThing(parsed(ground.Parse(t.text))))
}

func (t *turn) makePlan() string {
	return t.made(planThing(parsed(ParsePlan(t.text))))
}

func (t *turn) makeWatch() string {
	return t.made(watchThing(parsed(watch.Parse(t.text))))
}

func (t *turn) makeContract() string {
	return t.made(contractThing(parsed(claims.ParseContract(t.text))))
}

func (t *turn) makeRecord() string {
	return t.made(recordThing(parsed(claims.Read(t.text))))
}

func (t *turn) makeJob() string {
	j := parsed(ParseJob(t.text))
	must(works.Check(j))
	return t.made(jobThing(j))
}

func (t *turn) makeReadings() string {
	return t.made(readingsThing(parsed(ParseReadings(t.watch, t.text))))
}

// paper keeps a paper, and returns its number as it stands in answers.
func (t *turn) paper(p api.Paper) string {
	t.site.papers = append(t.site.papers, p)
	return "[" + strconv.Itoa(len(t.site.papers)-1) + "]"
}

func (t *turn) most() string {
	goal := termsOf(t.words[1:])
	answer, e := ground.Most(t.grounds[0], goal) // the errors that exact.Sum has for the goal are its first ones
	must(e)
	rows, e := ground.Rows(t.grounds[0])
	must(e)
	value := string(answer.Value)
	switch answer.Kind {
	case api.AnEmpty:
		value = "none"
	case api.AnFree:
		value = "free"
	}
	return list("most:", value, t.paper(api.Paper{Kind: api.PaMost, Rows: rows, Goal: goal, Answer: answer}))
}

// termsOf returns the terms that pairs of words say, sorted by name.
func termsOf(words []string) []api.Term {
	var terms []api.Term
	for pair := range slices.Chunk(words, 2) {
		terms = append(terms, api.Term{Name: pair[1], Coef: api.Frac(pair[0])})
	}
	slices.SortStableFunc(terms, func(a, b api.Term) int { return cmp.Compare(a.Name, b.Name) })
	return terms
}

func (t *turn) delta() string {
	changes, e := ground.Compare(t.grounds[0], t.grounds[1])
	must(e)
	texts := each(changes, func(c api.Change) string {
		switch c.Kind {
		case api.ChGone:
			return "-" + c.Name
		case api.ChNew:
			return "+" + c.Name
		}
		return "*" + c.Name
	})
	return list("delta:", list(strconv.Itoa(len(changes)), texts...))
}

func (t *turn) newDig() string {
	d, e := stages.New(t.grounds[0], t.plan)
	must(e)
	t.made(digThing(d))
	return list("dig", t.words[0]+":", strconv.Itoa(len(d.Plan.Stages)), "stages")
}

// after returns the dig of the line after a deed.
func (t *turn) after(x api.Deed) api.Dig {
	d, e := stages.Apply(t.dig, x)
	must(e)
	return d
}

// keep keeps the dig of the line as it is now, and returns the answer.
func (t *turn) keep(d api.Dig, answer ...string) string {
	t.site.named[t.site.place(t.words[0])].thing = digThing(d)
	return list(t.words[0]+":", answer...)
}

// stage returns the number of the stage that the line names.
func (t *turn) stage() int {
	return numberIn(stageNames(t.dig.Plan.Stages), t.words[1])
}

func (t *turn) observe() string {
	s := sayingOf(t.dig.Ground.Layers, t.words[1:])
	return t.keep(t.after(api.Deed{Kind: api.DeObserve, Saying: s}), "observed")
}

func (t *turn) retract() string {
	d := t.after(api.Deed{Kind: api.DeRetract, Name: t.words[1]})
	shaken := 0
	for _, m := range d.Marks {
		if m.Shaken {
			shaken++
		}
	}
	return t.keep(d, "retracted,", "shaken", strconv.Itoa(shaken))
}

func (t *turn) verify() string {
	i := t.stage()
	d := t.after(api.Deed{Kind: api.DeVerify, Stage: i})
	rows, e := ground.Rows(d.Ground)
	must(e)
	return t.keep(d, "verified", t.paper(api.Paper{Kind: api.PaStage, Rows: rows, Demands: d.Plan.Stages[i].Demands, Proofs: d.Marks[i].Proofs}))
}

func (t *turn) start() string {
	return t.keep(t.after(api.Deed{Kind: api.DeBegin, Stage: t.stage()}), "started")
}

func (t *turn) finish() string {
	return t.keep(t.after(api.Deed{Kind: api.DeDone, Stage: t.stage()}), "finished")
}

func (t *turn) ready() string {
	numbers, e := stages.Ready(t.dig)
	must(e)
	return list("ready:", each(numbers, func(i int) string { return t.dig.Plan.Stages[i].Name })...)
}

func (t *turn) late() string {
	numbers, e := watch.Late(t.watch)
	must(e)
	return list("late:", each(numbers, func(i int) string { return t.measure(t.watch.Alarms[i].Measure) })...)
}

// measure returns the name of a measure.
func (t *turn) measure(i int) string {
	return t.watch.Measures[i].Name
}

// number returns the number in a place of the line.
func (t *turn) number(place int) int {
	n, _ := numberOf(t.words[place])
	return n
}

func (t *turn) run() string {
	events, e := watch.Run(t.watch, t.readings, t.number(2))
	must(e)
	return list("run:", each(events, func(x api.WatchEvent) string { return strconv.Itoa(x.Time) + ":" + t.event(x) })...)
}

// event returns what happens.
func (t *turn) event(x api.WatchEvent) string {
	switch x.Kind {
	case api.WeBroken:
		return "broken-" + t.watch.Quantities[x.Number].Name
	case api.WeAlarm:
		return "alarm-" + t.measure(t.watch.Alarms[x.Number].Measure)
	case api.WeBegin:
		return "begin-" + t.measure(x.Number)
	}
	return "done-" + t.measure(x.Number)
}

func (t *turn) schedule() string {
	var order []int
	for i := range t.job.Tasks {
		order = append(order, i)
	}
	starts, e := works.Serial(t.job, order)
	must(e)
	floor, e := works.Least(t.job)
	must(e)
	length, e := works.Length(t.job, starts)
	must(e)
	n := t.paper(api.Paper{Kind: api.PaSchedule, Job: t.job, Starts: starts, Floor: floor})
	return list("schedule:", strconv.Itoa(length), "of at least", strconv.Itoa(floor.Minutes), n)
}

func (t *turn) seal() string {
	seals, e := claims.Seals(t.records[0])
	must(e)
	last := uint64(0)
	if len(seals) > 0 {
		last = seals[len(seals)-1]
	}
	return list("seal:", strconv.FormatUint(last, 10))
}

func (t *turn) account() string {
	all, total, e := claims.Account(t.contract, t.records[0], t.number(2))
	must(e)
	texts := []string{strconv.FormatInt(total, 10)}
	for i, c := range all {
		texts = append(texts, t.contract.Clauses[i].Name+":"+stateOf(c))
	}
	return list("account:", texts...)
}

// stateOf returns the word for what a claim is.
func stateOf(c api.Claim) string {
	switch c.State {
	case api.ClOpen:
		return "open"
	case api.ClBarred:
		return "barred"
	case api.ClDue:
		return "due"
	}
	return "quiet"
}

func (t *turn) between() string {
	clauses := each(t.contract.Clauses, func(c api.Clause) string { return c.Name })
	clause := numberIn(clauses, t.words[4])
	low, high, e := claims.Between(t.contract, t.records[0], t.records[1], t.number(3), clause)
	must(e)
	return list("between:", strconv.FormatInt(low, 10), strconv.FormatInt(high, 10))
}

func (t *turn) audit() string {
	bad := slices.IndexFunc(t.site.papers, func(p api.Paper) bool { return Verify(p) != api.OK })
	if bad >= 0 {
		return list("audit: bad", strconv.Itoa(bad))
	}
	return list("audit: good", strconv.Itoa(len(t.site.papers)))
}
