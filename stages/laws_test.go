package stages_test

import (
	"fmt"
	"math/big"
	"math/rand"
	"reflect"
	"slices"
	"strings"
	"sync"
	"testing"

	"underpin/api"
	"underpin/ground"
	"underpin/stages"
)

// call is what functions are called with.
type call struct {
	d     api.Dig
	deeds []api.Deed
	row   api.Row
}

// results calls all functions, fails if one of them has a result beside an error, and returns what they return.
func (c call) results(t testing.TB) []any {
	t.Helper()
	var all []any
	keep := func(what string, e api.Errno, l ...any) {
		t.Helper()
		alone(t, what, e, l...)
		all = append(all, append(l, e)...)
	}
	keep("CheckPlan", api.OK, stages.CheckPlan(c.d.Ground, c.d.Plan))
	fresh, e := stages.New(c.d.Ground, c.d.Plan)
	keep("New", e, fresh)
	keep("Check", api.OK, stages.Check(c.d))
	order, e := stages.Order(c.d.Ground, c.d.Plan)
	keep("Order", e, order)
	least, free, e := stages.Slack(c.d.Ground, c.row)
	keep("Slack", e, least, free)
	for _, x := range c.deeds {
		d, e := stages.Apply(c.d, x)
		keep("Apply", e, d)
	}
	d, at, e := stages.Run(c.d, c.deeds)
	if stages.Check(c.d) != api.OK || len(c.deeds) > api.MaxDeeds {
		alone(t, "Run", e, d, at)
	}
	keep("Run", api.OK, d, at, e)
	ready, e := stages.Ready(c.d)
	keep("Ready", e, ready)
	lost, e := stages.Lost(c.d)
	keep("Lost", e, lost)
	return all
}

// randomCall makes arguments without errors.
func randomCall(t testing.TB, r *rand.Rand) call {
	c := call{d: randomDig(t, r)}
	for i := range r.Intn(6) {
		c.deeds = append(c.deeds, someDeed(r, c.d, 100+i))
	}
	c.row = randomDemand(r, c.d.Ground)
	return c
}

// TestArgumentsAndTwins: R4 and R10, no argument changes, and equal calls return equal results.
func TestArgumentsAndTwins(t *testing.T) {
	r := rand.New(rand.NewSource(60))
	for range 60 {
		c := randomCall(t, r)
		before := fmt.Sprintf("%#v", c)
		first := said(c.results(t))
		equal(t, "arguments", fmt.Sprintf("%#v", c), before)
		equal(t, "twins", said(c.results(t)), first)
	}
}

// TestManyAtOnce: R10, calls at the same time do not influence one another.
func TestManyAtOnce(t *testing.T) {
	c := randomCall(t, rand.New(rand.NewSource(61)))
	want := said(c.results(t))
	var all sync.WaitGroup
	got := make([]string, 8)
	for i := range got {
		all.Go(func() { got[i] = said(c.results(t)) })
	}
	all.Wait()
	for _, s := range got {
		equal(t, "at once", s, want)
	}
}

// span is where a list lies in memory.
type span struct{ from, to uintptr }

// spans returns where all lists in a value lie, with the room behind them.
func spans(v reflect.Value) []span {
	var l []span
	switch v.Kind() {
	case reflect.Interface:
		if !v.IsNil() {
			l = spans(v.Elem())
		}
	case reflect.Struct:
		for i := range v.NumField() {
			l = append(l, spans(v.Field(i))...)
		}
	case reflect.Slice:
		if size := uintptr(v.Cap()) * v.Type().Elem().Size(); size > 0 {
			l = append(l, span{v.Pointer(), v.Pointer() + size})
		}
		for i := range v.Len() {
			l = append(l, spans(v.Index(i))...)
		}
	}
	return l
}

// apart fails if two lists in values share memory.
func apart(t testing.TB, values ...any) {
	t.Helper()
	l := spans(reflect.ValueOf(values))
	slices.SortFunc(l, func(a, b span) int { return int(int64(a.from) - int64(b.from)) })
	for i := 1; i < len(l); i++ {
		if l[i].from < l[i-1].to {
			t.Fatal("shared memory")
		}
	}
}

// TestMemory: R4, results share no memory with arguments or with each other.
func TestMemory(t *testing.T) {
	r := rand.New(rand.NewSource(62))
	for range 60 {
		c := randomCall(t, r)
		c.d, c.row = copied(c.d), api.Row{Terms: slices.Clone(c.row.Terms), Bound: c.row.Bound}
		for i, x := range c.deeds {
			c.deeds[i].Saying.Row.Terms = slices.Clone(x.Saying.Row.Terms)
			for k, weights := range x.Proofs {
				c.deeds[i].Proofs[k] = slices.Clone(weights)
			}
		}
		apart(t, c.d, c.deeds, c.row)
		apart(t, c.d, c.deeds, c.row, c.results(t))
	}
	d := mustNew(t, exampleGround(), examplePlan())
	x := prove(0, proofOf(12))
	out := mustRun(t, d, x)
	apart(t, d, x, out)
	s := observe(api.Saying{Name: "s", Kind: api.SaRow, Row: row("1 b-1-0 <= 9")})
	apart(t, out, s, mustRun(t, out, s))
	apart(t, out, mustRun(t, out, retract("cs")))
	apart(t, out, mustRun(t, out))
	short, _, e := stages.Run(out, []api.Deed{begin(0), begin(0)})
	equal(t, "the second deed", e, api.ErrState)
	apart(t, out, short)
}

// TestNilAndEmpty: R3, nil and empty lists are the same.
func TestNilAndEmpty(t *testing.T) {
	empty := []int{}
	p := api.Excavation{Supports: []string{}, Stages: []api.Stage{{Name: "pit", After: empty, Rests: empty, Takes: empty, Sets: empty, Demands: []api.Row{}}}}
	q := api.Excavation{Stages: []api.Stage{{Name: "pit"}}}
	g, h := flat(), flat()
	g.Traits, g.Sayings = []api.Trait{}, []api.Saying{}
	c := call{d: api.Dig{Ground: g, Plan: p, Marks: []api.StageMark{{State: 1, Proofs: [][]api.Frac{}}}, Standing: []bool{}}}
	c.row = api.Row{Terms: []api.Term{}, Bound: "1"}
	c.deeds = []api.Deed{begin(0)}
	d := call{d: api.Dig{Ground: h, Plan: q, Marks: []api.StageMark{{State: 1}}}, row: api.Row{Bound: "1"}, deeds: c.deeds}
	equal(t, "empty", said(c.results(t)), said(d.results(t)))
	equal(t, "it is right", stages.Check(c.d), api.OK)
	prove := mustRun(t, mustNew(t, g, p), api.Deed{Kind: api.DeProve, Proofs: [][]api.Frac{}})
	equal(t, "no proofs", prove.Marks[0].State, api.SgVerified)
	equal(t, "nothing", said(call{d: api.Dig{Marks: []api.StageMark{}, Standing: []bool{}}, deeds: []api.Deed{}}.results(t)), said(call{}.results(t)))
}

// TestObservations: P6.4 and P0.1, an observation takes no verification away, and no model is allowed after it that was not
// allowed before.
func TestObservations(t *testing.T) {
	r := rand.New(rand.NewSource(63))
	allowed, lost := 0, 0
	for i := range 300 {
		d := randomDig(t, r)
		out, e := stages.Apply(d, observe(randomSaying(r, d.Ground, fmt.Sprintf("x%d", i))))
		if e == api.ErrLimit {
			continue
		}
		equal(t, "Apply", e, api.OK)
		for k, m := range d.Marks {
			now := out.Marks[k]
			equal(t, "mark", []any{now.State, now.Shaken, len(now.Proofs)}, []any{m.State, m.Shaken, len(m.Proofs)})
		}
		model := randomModel(r, d.Ground)
		before, e := ground.Allows(d.Ground, model)
		after, f := ground.Allows(out.Ground, model)
		equal(t, "errors", []api.Errno{e, f}, []api.Errno{api.OK, api.OK})
		switch {
		case after && !before:
			t.Fatal("a model more:", said(d), said(out), model)
		case after:
			allowed++
		case before:
			lost++
		}
	}
	if allowed < 20 || lost < 5 {
		t.Error("too few:", allowed, lost)
	}
}

// randomModel makes a model close to the one with which most statements agree.
func randomModel(r *rand.Rand, g api.Ground) []api.Value {
	names, _ := ground.Unknowns(g)
	var model []api.Value
	for _, name := range names {
		x := plus(standard(name), big.NewRat(int64(r.Intn(3)-1), int64(2+r.Intn(3))))
		model = append(model, api.Value{Name: name, Value: frac(x)})
	}
	return model
}

// TestBegunModels: P6.3 and P0.3, when a stage begins each model that is allowed keeps all of its demands.
func TestBegunModels(t *testing.T) {
	r := rand.New(rand.NewSource(64))
	models := 0
	for range 200 {
		g := randomGround(r, 4)
		p := randomPlan(r, g, 4)
		for i := range p.Stages {
			p.Stages[i].Rests, p.Stages[i].Takes = nil, nil
		}
		d := mustNew(t, g, p)
		for i, s := range p.Stages {
			out, at, _ := stages.Run(d, whole(i))
			if d = out; at < 2 {
				continue
			}
			for range 20 {
				model := randomModel(r, g)
				is, _ := ground.Allows(g, model)
				for _, demand := range s.Demands {
					if is && !keeps(demand, model) {
						t.Fatal("a model does not keep a demand:", said(g), said(s), model)
					}
					if is {
						models++
					}
				}
			}
		}
	}
	if models < 200 {
		t.Error("too few:", models)
	}
}

// junk makes arguments of any form, most of them close to good ones.
type junk struct {
	*rand.Rand
	texts []string
}

func (j junk) text() string {
	return j.texts[j.Intn(len(j.texts))]
}

func (j junk) number(n int) int {
	if j.Intn(3) == 0 {
		return []int{-1 << 63, 1<<63 - 1, 1 << 32, -1, n, 31, 32, 64}[j.Intn(8)]
	}
	return j.Intn(n + 1)
}

func (j junk) row() api.Row {
	if j.Intn(2) == 0 {
		return row("1 b-1-0 <= 5")
	}
	return term(j.text(), api.Frac(j.text()), api.Frac(j.text()))
}

// spoil changes something of a call.
func (j junk) spoil(c *call) {
	c.d = copied(c.d)
	if len(c.d.Plan.Stages) == 0 {
		c.d.Marks = append(c.d.Marks, api.StageMark{})
		return
	}
	k := j.Intn(len(c.d.Plan.Stages))
	s := &c.d.Plan.Stages[k]
	switch j.Intn(12) {
	case 0:
		c.d.Plan.Supports = append(c.d.Plan.Supports, j.text())
	case 1:
		s.Name = j.text()
	case 2:
		s.After = append(s.After, j.number(k))
	case 3:
		s.Rests = append(s.Rests, j.number(len(c.d.Plan.Supports)))
	case 4:
		s.Takes = append(s.Takes, j.number(len(c.d.Plan.Supports)))
	case 5:
		s.Sets = append(s.Sets, j.number(len(c.d.Plan.Supports)))
	case 6:
		s.Demands = append(s.Demands, j.row())
	case 7:
		c.d.Ground.Sayings = append(c.d.Ground.Sayings, api.Saying{Name: "more", Kind: api.SayingKind(j.Intn(5)), Layer: j.number(2), X: j.number(2), Row: j.row()})
	case 8:
		c.d.Ground.Depth = api.Frac(j.text())
	case 9:
		c.row = j.row()
	case 10, 11:
		spoil(j.Rand, &c.d)
	}
}

func (j junk) deed() api.Deed {
	return api.Deed{
		Kind:   api.DeedKind(j.Intn(8)),
		Saying: api.Saying{Name: j.text(), Kind: api.SayingKind(j.Intn(5)), Layer: j.number(2), X: j.number(9), Low: api.Frac(j.text()), High: api.Frac(j.text())},
		Name:   j.text(),
		Stage:  j.number(3),
		Proofs: [][]api.Frac{weights(j.text() + " " + j.text())},
	}
}

// TestAnything: P0.1, R2 and R8, whatever is given, each function ends, and has nothing beside an error.
func TestAnything(t *testing.T) {
	j := junk{rand.New(rand.NewSource(65)), []string{
		"", "0", "1", "-1", "1/2", "-7/3", "x", "X", "-", "/", "1/0", "00", "2/4", "\x00\xff", "é", " ", "b-1-0", "b-2-0", "t-c-0", "g0",
		"stage-0", "s0", "1000000000000", strings.Repeat("a", api.MaxName), strings.Repeat("a", api.MaxName+1), most, "1/" + most, most + "0",
	}}
	right, wrong := 0, 0
	for range 400 {
		c := randomCall(t, j.Rand)
		for range j.Intn(3) {
			j.spoil(&c)
		}
		for range j.Intn(4) {
			c.deeds = append(c.deeds, j.deed())
		}
		if stages.Check(c.d) == api.OK {
			right++
		} else {
			wrong++
		}
		c.results(t)
	}
	if right < 100 || wrong < 100 {
		t.Error("too few:", right, wrong)
	}
	call{deeds: make([]api.Deed, 3)}.results(t)
	d := begun(t)
	d.Marks[0].Proofs[0] = make([]api.Frac, 100000)
	call{d: d}.results(t)
	d = begun(t)
	d.Marks[1].Proofs = make([][]api.Frac, 100000)
	call{d: d, deeds: make([]api.Deed, 100000)}.results(t)
	d.Marks, d.Standing = make([]api.StageMark, 100000), make([]bool, 100000)
	call{d: d}.results(t)
	d.Plan.Stages, d.Plan.Supports = make([]api.Stage, 100000), make([]string, 100000)
	call{d: d}.results(t)
}

// TestLongWeights: P0.1, weights of as many digits as numbers may have.
func TestLongWeights(t *testing.T) {
	long := proofOf(12)
	long[1], long[2] = api.Frac("1/"+most), "0"
	d := mustNew(t, exampleGround(), examplePlan())
	fails(t, "a weight too many", d, prove(0, long), api.ErrSum)
	both := proofOf(12)
	both[12], both[13] = api.Frac(most), api.Frac(most[1:]+"8") // at most 4, and at least 3, so that 1 is left
	fails(t, "too much", d, prove(0, both), api.ErrSum)
	both[12], both[13] = "1000000000000000000001", "1000000000000000000000"
	fails(t, "a sum that is too great", d, prove(0, both), api.ErrSum)
	both[12], both[13] = api.Frac("1"+strings.Repeat("0", 40000)+"1/1"+strings.Repeat("0", 40001)), api.Frac("1/1"+strings.Repeat("0", 40001))
	d = mustRun(t, d, prove(0, both)) // 1 + 10^-40001 times at most 4, 10^-40001 times at least 3
	equal(t, "what was given", d.Marks[0].Proofs, [][]api.Frac{both})
	d = mustRun(t, d, retract("cs"), begin(0), retract("bh"))
	equal(t, "shaken", d.Marks[0], api.StageMark{State: api.SgBegun, Shaken: true})
}

// TestReadme: the example of the README.
func TestReadme(t *testing.T) {
	g, _, e := ground.Parse("stations 0 10\ndepth 20\nlayer fill\nlayer clay\nlayer rock\ntop bh 0 clay 3 4\n")
	equal(t, "ground", e, api.OK)
	shallow := api.Row{Terms: []api.Term{{Name: "b-1-0", Coef: "1"}}, Bound: "5"}
	p := api.Excavation{
		Supports: []string{"wall"},
		Stages: []api.Stage{
			{Name: "pit", Sets: []int{0}, Demands: []api.Row{shallow}},
			{Name: "floor", After: []int{0}, Rests: []int{0}, Takes: []int{0}},
		},
	}
	order, e := stages.Order(g, p)
	equal(t, "Order", []any{order, e}, []any{[]int{0, 1}, api.OK})
	least, free, e := stages.Slack(g, shallow)
	equal(t, "Slack", []any{least, free, e}, []any{api.Frac("1"), false, api.OK})
	d, e := stages.New(g, p)
	equal(t, "New", e, api.OK)
	d, at, e := stages.Run(d, []api.Deed{{Kind: api.DeVerify, Stage: 0}, {Kind: api.DeBegin, Stage: 0}, {Kind: api.DeDone, Stage: 0}, {Kind: api.DeVerify, Stage: 1}})
	equal(t, "Run", []any{at, e}, []any{4, api.OK})
	ready, e := stages.Ready(d)
	equal(t, "Ready", []any{ready, e}, []any{[]int{1}, api.OK})
	d, e = stages.Apply(d, api.Deed{Kind: api.DeRetract, Name: "bh"})
	equal(t, "Apply", []any{d.Marks[0].Shaken, e}, []any{true, api.OK})
	ready, e = stages.Ready(d)
	equal(t, "Ready", []any{len(ready), e}, []any{0, api.OK})
	_, e = stages.Lost(d)
	equal(t, "Lost", e, api.ErrNone)
}
