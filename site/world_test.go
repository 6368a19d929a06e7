package site_test

import (
	"fmt"
	"math/rand"
	"regexp"
	"slices"
	"sort"
	"strconv"
	"strings"
	"testing"

	"underpin/api"
	"underpin/claims"
	"underpin/exact"
	"underpin/ground"
	"underpin/site"
	"underpin/stages"
	"underpin/watch"
	"underpin/works"
)

// world is what the chapter says of a site, in plain maps; its lines are told by regular expressions.
type world struct {
	kinds    map[string]string
	order    []string
	grounds  map[string]api.Ground
	plans    map[string]api.Excavation
	watches  map[string]api.WatchPlan
	deals    map[string]api.Contract
	records  map[string][]api.Fact
	jobs     map[string]api.Job
	readings map[string][]api.Entry
	digs     map[string]api.Dig
	papers   int
}

func newWorld() *world {
	return &world{
		kinds: map[string]string{}, grounds: map[string]api.Ground{}, plans: map[string]api.Excavation{}, watches: map[string]api.WatchPlan{}, deals: map[string]api.Contract{},
		records: map[string][]api.Fact{}, jobs: map[string]api.Job{}, readings: map[string][]api.Entry{}, digs: map[string]api.Dig{},
	}
}

// shapes are the forms of lines and of blocks, with the kinds of their things; + stands for a new name.
var shapes = []struct{ form, things string }{
	{`make (?:ground|plan|watch|contract|record|job) (NAME)\n((?s:.*\n)?)end`, "+"},
	{`make readings (NAME) (NAME)\n((?s:.*\n)?)end`, "+ watch"},
	{`most (NAME)((?: NUMBER [^ \n]+)+)`, "ground"},
	{`delta (NAME) (NAME)`, "ground ground"},
	{`dig (NAME) (NAME) (NAME)`, "+ ground plan"},
	{`observe (NAME)((?: [^ \n]+)+)`, "dig"},
	{`retract (NAME) (NAME)`, "dig"},
	{`(?:verify|start|finish) (NAME) (NAME)`, "dig stage"},
	{`ready (NAME)`, "dig"},
	{`late (NAME)`, "watch"},
	{`run (NAME) (NAME) (INT)`, "watch readings"},
	{`schedule (NAME)`, "job"},
	{`seal (NAME)`, "record"},
	{`account (NAME) (NAME) (INT)`, "contract record"},
	{`between (NAME) (NAME) (NAME) (INT) (NAME)`, "contract record record - clause"},
	{`audit`, ""},
}

// shapeOf is the form of a line or a block, and its parts.
func shapeOf(text string) (things, parts []string) {
	write := strings.NewReplacer("NAME", `[a-z][a-z0-9-]{0,15}`, "NUMBER", `(?:0|-?[1-9][0-9]*(?:/(?:[2-9]|[1-9][0-9]+))?)`, "INT", `0|-?[1-9][0-9]{0,9}`)
	for _, s := range shapes {
		if m := regexp.MustCompile(`^` + write.Replace(s.form) + `\n?$`).FindStringSubmatch(text); m != nil {
			return strings.Fields(s.things), m[1:]
		}
	}
	return nil, nil
}

// do does a line or a block.
func (w *world) do(text string) (string, api.Errno) {
	if len(text) > api.MaxText {
		return "", api.ErrLimit
	}
	things, parts := shapeOf(text)
	body := ""
	if strings.HasPrefix(text, "make ") && parts != nil {
		body = parts[len(parts)-1]
	}
	if parts == nil || slices.Contains(strings.Split(body, "\n"), "end") {
		return "", api.ErrForm
	}
	if len(things) > 0 && things[0] == "+" && w.kinds[parts[0]] != "" {
		return "", api.ErrTwice
	}
	number := -1 // of a stage, or of a clause
	for i, kind := range things {
		switch kind {
		case "+", "-":
			continue
		case "stage":
			number = slices.IndexFunc(w.digs[parts[0]].Plan.Stages, func(s api.Stage) bool { return s.Name == parts[1] })
		case "clause":
			number = slices.IndexFunc(w.deals[parts[0]].Clauses, func(c api.Clause) bool { return c.Name == parts[4] })
		}
		if kind == "stage" || kind == "clause" {
			if number < 0 {
				return "", api.ErrNone
			}
		} else if w.kinds[parts[i]] != kind {
			return "", api.ErrNone
		}
	}
	if len(things) > 0 && things[0] == "+" && len(w.order) == 32 {
		return "", api.ErrLimit
	}
	words := strings.Fields(text)
	if words[0] == "make" {
		return w.make(words[1], parts, body)
	}
	return w.line(words[0], parts, number)
}

// name gives a thing of a kind its name.
func (w *world) name(name, kind string) string {
	w.kinds[name] = kind
	w.order = append(w.order, name)
	return "made " + name
}

// make makes a thing of the text of a block.
func (w *world) make(kind string, parts []string, body string) (string, api.Errno) {
	name := parts[0]
	var e api.Errno
	switch kind {
	case "ground":
		var g api.Ground
		if g, _, e = ground.Parse(body); e == api.OK {
			w.grounds[name] = g
		}
	case "plan":
		var p api.Excavation
		if p, _, e = site.ParsePlan(body); e == api.OK {
			w.plans[name] = p
		}
	case "watch":
		var p api.WatchPlan
		if p, _, e = watch.Parse(body); e == api.OK {
			w.watches[name] = p
		}
	case "contract":
		var c api.Contract
		if c, _, e = claims.ParseContract(body); e == api.OK {
			w.deals[name] = c
		}
	case "record":
		var l []api.Fact
		if l, _, e = claims.Read(body); e == api.OK {
			w.records[name] = l
		}
	case "job":
		var j api.Job
		if j, _, e = site.ParseJob(body); e == api.OK {
			e = works.Check(j)
			w.jobs[name] = j
		}
	default:
		var l []api.Entry
		if l, _, e = site.ParseReadings(w.watches[parts[1]], body); e == api.OK {
			w.readings[name] = l
		}
	}
	if e != api.OK {
		return "", e
	}
	return w.name(name, kind), api.OK
}

// paper is the number of one more paper, as it stands in answers.
func (w *world) paper() string {
	w.papers++
	return fmt.Sprintf(" [%d]", w.papers-1)
}

// line does a line whose names are all there.
func (w *world) line(kind string, parts []string, number int) (string, api.Errno) {
	switch kind {
	case "most":
		return w.most(w.grounds[parts[0]], strings.Fields(parts[1]))
	case "delta":
		l, e := ground.Compare(w.grounds[parts[0]], w.grounds[parts[1]])
		answer := fmt.Sprintf("delta: %d", len(l))
		for _, c := range l {
			answer += " " + string("?-+*"[c.Kind]) + c.Name
		}
		return answer, e
	case "dig":
		d, e := stages.New(w.grounds[parts[1]], w.plans[parts[2]])
		if e == api.OK {
			w.digs[parts[0]] = d
			w.name(parts[0], "dig")
		}
		return fmt.Sprintf("dig %s: %d stages", parts[0], len(d.Plan.Stages)), e
	case "observe", "retract", "verify", "start", "finish", "ready":
		return w.deed(kind, parts, number)
	case "late":
		p := w.watches[parts[0]]
		l, e := watch.Late(p)
		answer := "late:"
		for _, i := range l {
			answer += " " + p.Measures[p.Alarms[i].Measure].Name
		}
		return answer, e
	case "run":
		return w.run(w.watches[parts[0]], w.readings[parts[1]], parts[2])
	case "schedule":
		j := w.jobs[parts[0]]
		order := make([]int, len(j.Tasks))
		for i := range order {
			order[i] = i
		}
		starts, e := works.Serial(j, order)
		if e != api.OK {
			return "", e
		}
		length, _ := works.Length(j, starts)
		floor, _ := works.Least(j)
		return fmt.Sprintf("schedule: %d of at least %d", length, floor.Minutes) + w.paper(), api.OK
	case "seal":
		l, e := claims.Seals(w.records[parts[0]])
		return fmt.Sprint("seal: ", append([]uint64{0}, l...)[len(l)]), e
	case "account":
		now, _ := strconv.Atoi(parts[2])
		l, total, e := claims.Account(w.deals[parts[0]], w.records[parts[1]], now)
		answer := fmt.Sprint("account: ", total)
		for i, c := range l {
			answer += " " + w.deals[parts[0]].Clauses[i].Name + ":" + []string{"quiet", "open", "barred", "due"}[c.State]
		}
		return answer, e
	case "between":
		now, _ := strconv.Atoi(parts[3])
		low, high, e := claims.Between(w.deals[parts[0]], w.records[parts[1]], w.records[parts[2]], now, number)
		return fmt.Sprintf("between: %d %d", low, high), e
	}
	return fmt.Sprintf("audit: good %d", w.papers), api.OK
}

// most does a line of this kind.
func (w *world) most(g api.Ground, words []string) (string, api.Errno) {
	var goal []api.Term
	for i := 0; i < len(words); i += 2 {
		goal = append(goal, api.Term{Name: words[i+1], Coef: api.Frac(words[i])})
	}
	sort.SliceStable(goal, func(i, k int) bool { return goal[i].Name < goal[k].Name })
	if _, e := exact.Sum(goal, nil); e != api.OK {
		return "", e
	}
	a, e := ground.Most(g, goal)
	if e != api.OK {
		return "", e
	}
	value := map[api.AnswerKind]string{api.AnBest: string(a.Value), api.AnEmpty: "none", api.AnFree: "free"}[a.Kind]
	return "most: " + value + w.paper(), api.OK
}

// deed does a line in a dig.
func (w *world) deed(kind string, parts []string, stage int) (string, api.Errno) {
	name := parts[0]
	d := w.digs[name]
	if kind == "ready" {
		l, e := stages.Ready(d)
		answer := "ready:"
		for _, i := range l {
			answer += " " + d.Plan.Stages[i].Name
		}
		return answer, e
	}
	x := api.Deed{Stage: stage, Name: parts[1]}
	switch kind {
	case "observe":
		text, e := ground.Print(d.Ground)
		first := strings.Fields(parts[1])[0]
		if e != api.OK || first != "top" && first != "value" && first != "row" {
			return "", api.ErrForm
		}
		g, _, e := ground.Parse(text + parts[1][1:] + "\n")
		if e != api.OK {
			return "", e
		}
		x.Kind, x.Saying = api.DeObserve, g.Sayings[len(g.Sayings)-1]
	case "retract":
		x.Kind = api.DeRetract
	case "verify":
		x.Kind = api.DeVerify
	case "start":
		x.Kind = api.DeBegin
	case "finish":
		x.Kind = api.DeDone
	}
	d, e := stages.Apply(d, x)
	if e != api.OK {
		return "", e
	}
	w.digs[name] = d
	switch kind {
	case "retract":
		shaken := 0
		for _, m := range d.Marks {
			if m.Shaken {
				shaken++
			}
		}
		return fmt.Sprintf("%s: retracted, shaken %d", name, shaken), api.OK
	case "verify":
		return name + ": verified" + w.paper(), api.OK
	}
	return name + ": " + map[string]string{"observe": "observed", "start": "started", "finish": "finished"}[kind], api.OK
}

// run does a line of this kind.
func (w *world) run(p api.WatchPlan, l []api.Entry, until string) (string, api.Errno) {
	n, _ := strconv.Atoi(until)
	events, e := watch.Run(p, l, n)
	answer := "run:"
	for _, x := range events {
		name := ""
		switch x.Kind {
		case api.WeBroken:
			name = "broken-" + p.Quantities[x.Number].Name
		case api.WeAlarm:
			name = "alarm-" + p.Measures[p.Alarms[x.Number].Measure].Name
		case api.WeBegin:
			name = "begin-" + p.Measures[x.Number].Name
		case api.WeDone:
			name = "done-" + p.Measures[x.Number].Name
		}
		answer += fmt.Sprintf(" %d:%s", x.Time, name)
	}
	return answer, e
}

// randomLine is a line, or a block, most of whose names are there.
func randomLine(r *rand.Rand, s *site.Site) string {
	pick := func(l ...string) string { return l[r.Intn(len(l))] }
	fresh := func() string {
		if l := s.Names(); len(l) > 0 && r.Intn(6) == 0 {
			return pick(l...)
		}
		return fmt.Sprintf("n%d", r.Intn(60))
	}
	thing := func(kind string) string {
		l := append(s.Names(), "zzz")
		for range 60 {
			if name := pick(l...); strings.HasPrefix(name, kind) {
				return name
			}
		}
		return pick(l...)
	}
	named := func(kind string) string { // names of things tell their kinds, so that they are found again
		if r.Intn(8) == 0 {
			return fresh()
		}
		if kind == "d" { // few, so that they go on
			return kind + strconv.Itoa(r.Intn(3))
		}
		return kind + strconv.Itoa(r.Intn(12))
	}
	stage := func() string { return pick("pit", "pit", "pit", "floor", "floor", "floor", "shaft") }
	number := func() string { return pick("0", "9", "29", "49", "60", "100", "100000", "-1") }
	unknown := func() string { return pick("b-1-0", "b-1-1", "b-2-0", "b-2-1", "b-3-0") }
	switch r.Intn(29) {
	case 0:
		return block("ground "+named("g"), pick(groundText, otherText, clashText, groundText, "?\n", groundText+"top bh 0 clay 1 2\n"))
	case 1:
		return block("plan "+named("p"), pick(planText, planText, "stage pit\nstage floor\nafter pit\ndemand 1 b-1-1 <= 10\n", "stage pit\nafter pit\n", "stage pit\nstage pit\n"))
	case 2:
		return block("watch "+named("w"), pick(watchText, watchText, "quantity sink 0 30 2 1 0\ngauge a 1 0 0\nmeasure pump gang 1 5 30\nalarm sink 20 100 pump\n", "?\n"))
	case 3:
		return block("readings "+named("r")+" "+thing("w"), pick(readingsText, "", "sink a 5 9\nsink a 7 -9\n", "sink a 5 9\nsink a 4 9\n", "sink d 5 9\n"))
	case 4:
		return block("contract "+named("c"), pick(contractText, contractText, "", "clause ground 0 100 5\nwhen (= 1 1)\npay (now)\n", "base A 1\n"))
	case 5:
		return block("record "+named("f"), pick(recordText, halfText, factText, "", "?\n", "5 met clay ann 8\n4 met clay ann 8\n"))
	case 6:
		return block("job "+named("j"), pick(jobText, jobText, "", "task a 100000\ntask b 1\nneeds a\n", "task a 1\nneeds b\n", "task A 1\n"))
	case 7, 8:
		line := "most " + thing("g")
		for range 1 + r.Intn(3) {
			line += " " + string(fraction(r)) + " " + unknown()
		}
		return line
	case 9:
		return "delta " + thing("g") + " " + thing("g")
	case 10, 11:
		return "dig " + named("d") + " " + thing("g") + " " + thing("p")
	case 12, 13:
		return "observe " + thing("d") + " " + pick("top bh 0 clay 3 4", "top bh 0 clay 3 4", "top s1 0 clay 2 "+pick("5", "9/2", "4"), "top s2 5 clay 8 "+pick("8", "9"), "row s3 1 b-1-0 <= "+pick("3", "7/2"), "top s4 0 lime 1 2", "top s5 0 clay 1", "top s6 0 clay 7 9")
	case 14:
		return "retract " + thing("d") + " " + pick("bh", "bh", "s1", "s2", "s3", "s6")
	case 15, 16:
		return "verify " + thing("d") + " " + stage()
	case 17, 26, 27:
		return "start " + thing("d") + " " + stage()
	case 18, 28:
		return "finish " + thing("d") + " " + stage()
	case 19:
		return "ready " + thing("d")
	case 20:
		return "late " + thing("w")
	case 21:
		return "run " + thing("w") + " " + thing("r") + " " + number()
	case 22:
		return "schedule " + thing("j")
	case 23:
		return "seal " + thing("f")
	case 24:
		return "account " + thing("c") + " " + thing("f") + " " + number()
	}
	return "between " + thing("c") + " " + thing("f") + " " + thing("f") + " " + number() + " " + pick("ground", "ground", "late", "sky")
}

// spoiled is a line or a block of which something is other.
func spoiled(r *rand.Rand, text string) string {
	pick := func(l ...string) string { return l[r.Intn(len(l))] }
	i := r.Intn(len(text) + 1)
	switch r.Intn(6) {
	case 0:
		return text[:i] + pick(" ", "\n", "x", "X", "end\n", "\nend\n", "9", "audit\n", "#") + text[i:]
	case 1:
		return text[:i]
	case 2:
		return text[i:]
	case 3:
		return text + pick(" ", "\n", "\n\n", "\nend", " x", " 1")
	case 4:
		w := strings.Split(text, " ")
		return list(without(w, r.Intn(len(w))))
	}
	w := strings.Split(text, " ")
	w[r.Intn(len(w))] = pick("audit", "make", "end", "X", "", "0", "-0", "12345678901")
	return list(w)
}

// TestByWords: P10.2, P10.3, P10.5 and P10.6, lines of any kind, against the chapter's words; what is refused changes nothing,
// two sites that do the same tell the same, all papers are good, and all digs are valid.
func TestByWords(t *testing.T) {
	r := rand.New(rand.NewSource(7))
	counts := map[string]int{}
	for round := range 28 {
		first := firstLines(round)
		s, twin, w := site.New(), site.New(), newWorld()
		var lines, told []string
		ahead := all(s)
		for range 200 {
			line := randomLine(r, s)
			if r.Intn(5) == 0 {
				line = spoiled(r, line)
			}
			if r.Intn(10) == 0 {
				line = "audit"
			}
			if len(first) > 0 {
				line, first = first[0], first[1:]
			}
			want, e := w.do(line)
			if e != api.OK {
				want = ""
			}
			got, f := s.Do(line)
			equal(t, fmt.Sprintf("%q behind %q", line, lines), []any{got, f}, []any{want, e})
			again, f := twin.Do(line)
			equal(t, "its twin", []any{again, f}, []any{want, e})
			if e != api.OK {
				equal(t, "refused: "+line, all(s), ahead)
				got = fmt.Sprint("error ", int(e))
			}
			ahead = all(s)
			lines, told = append(lines, line), append(told, got)
			counts[fmt.Sprint(strings.Split(strings.Split(line, "\n")[0], " ")[0], " ", int(e))]++
		}
		w.check(t, s)
		equal(t, "its twin", all(twin), ahead)
		runAgain(t, lines, told, s)
	}
	for _, kind := range []string{"make 0", "make 3", "make 6", "make 7", "most 0", "most 6", "delta 0", "dig 0", "dig 3", "observe 0", "observe 6", "retract 0", "verify 0", "verify 8", "verify 12",
		"start 0", "start 8", "finish 0", "finish 8", "ready 0", "late 0", "run 0", "schedule 0", "seal 0", "account 0", "between 0", "audit 0"} {
		if counts[kind] < 10 {
			t.Error("too few:", kind, counts[kind])
		}
	}
}

// firstLines are lines with which some rounds begin: digs that have what they need, or many things.
func firstLines(round int) []string {
	var l []string
	switch round % 4 {
	case 0, 1, 2:
		l = []string{block("ground g0", groundText), block("plan p0", planText), "dig d0 g0 p0", "dig d1 g0 p0", "verify d0 pit", "start d0 pit"}
	case 3:
		for i := range 26 {
			l = append(l, fmt.Sprintf("make record f%d\nend", 20+i))
		}
	}
	return l
}

// check checks that a site tells what the world has, that its papers are good, and its digs valid.
func (w *world) check(t *testing.T, s *site.Site) {
	t.Helper()
	equal(t, "names", s.Names(), w.order)
	papers := s.Papers()
	equal(t, "papers", len(papers), w.papers)
	for _, p := range papers {
		equal(t, "good", site.Verify(p), api.OK)
	}
	for _, name := range w.order {
		d, is := s.Dig(name)
		equal(t, name, []any{said(d), is}, []any{said(w.digs[name]), w.kinds[name] == "dig"})
		if is {
			equal(t, name, stages.Check(d), api.OK)
		}
	}
}

// runAgain does lines again, as a script. Texts that are no lines are left out: a script reads some of them otherwise.
func runAgain(t *testing.T, lines, told []string, s *site.Site) {
	t.Helper()
	var script strings.Builder
	var want []string
	for i, line := range lines {
		if told[i] == "error 4" {
			continue
		}
		script.WriteString(strings.TrimSuffix(line, "\n") + "\n")
		want = append(want, told[i])
	}
	if strings.Count(script.String(), "\n") > api.MaxLines || script.Len() > api.MaxText {
		return
	}
	got, papers, e := site.Run(script.String())
	equal(t, "as a script", []any{got, e}, []any{want, api.OK})
	equal(t, "its papers", said(papers), said(s.Papers()))
}

// TestAnyText: P0.1 and R8, no text is too strange for any function.
func TestAnyText(t *testing.T) {
	r := rand.New(rand.NewSource(8))
	seeds := append(blocks(), groundText, planText, watchText, readingsText, contractText, recordText, jobText, "most g 1 b-1-0", "dig d g p", "verify d pit", "observe d top cut 5 clay 2 3")
	p := watchOf(t, watchText)
	s := full(t)
	for range 4000 {
		text := []byte(seeds[r.Intn(len(seeds))])
		for range r.Intn(6) {
			switch i := r.Intn(len(text) + 1); r.Intn(4) {
			case 0:
				text = slices.Insert(text, i, byte(r.Intn(256)))
			case 1:
				text = slices.Insert(text, i, " \n0-/<=azA"[r.Intn(10)])
			case 2:
				text = append(text[:i:i], text[min(i+r.Intn(9), len(text)):]...)
			default:
				text = append(text[:i:i], append([]byte(seeds[r.Intn(len(seeds))]), text[i:]...)...)
			}
		}
		plan, _, e := site.ParsePlan(string(text))
		alone(t, "ParsePlan", e, plan)
		job, _, e := site.ParseJob(string(text))
		alone(t, "ParseJob", e, job)
		l, _, e := site.ParseReadings(p, string(text))
		alone(t, "ParseReadings", e, l)
		answer, e := s.Do(string(text))
		alone(t, "Do", e, answer)
		got, papers, e := site.Run(string(text))
		alone(t, "Run", e, got, papers)
	}
	answers(t, s, "audit", fmt.Sprint("audit: good ", len(s.Papers())))
}
