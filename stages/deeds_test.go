package stages_test

import (
	"fmt"
	"math/rand"
	"slices"
	"testing"

	"underpin/api"
	"underpin/ground"
	"underpin/stages"
)

// TestExamples: P6.2, the examples of the chapter.
func TestExamples(t *testing.T) {
	fresh := mustNew(t, exampleGround(), examplePlan())
	fails(t, "begin pit", fresh, begin(0), api.ErrState)
	d := mustRun(t, fresh, whole(0)...)
	equal(t, "pit is done", d.Marks[0].State, api.SgDone)
	equal(t, "the wall stands", d.Standing, []bool{true})
	d = mustRun(t, d, verify(1), retract("bh"))
	equal(t, "pit is shaken", d.Marks[0], api.StageMark{State: api.SgDone, Shaken: true})
	equal(t, "floor is waiting", d.Marks[1], api.StageMark{})
	fails(t, "verify pit", d, verify(0), api.ErrSum)
	d = mustRun(t, d, observe(seen("seen", "2", "9/2")), verify(0))
	equal(t, "pit is not shaken any more", []any{d.Marks[0].State, d.Marks[0].Shaken}, []any{api.SgDone, false})
}

// TestNothingBegins: P0.3, the example of DOC.md: nothing begins while a stage is shaken.
func TestNothingBegins(t *testing.T) {
	p := examplePlan()
	p.Stages = append(p.Stages, api.Stage{Name: "road"})
	d := mustRun(t, mustNew(t, exampleGround(), p), verify(2))
	fails(t, "floor is not verified", d, begin(1), api.ErrState)
	d = mustRun(t, d, verify(1))
	fails(t, "floor is behind pit", d, begin(1), api.ErrLoop)
	d = mustRun(t, d, whole(0)...)
	d = mustRun(t, d, retract("bh"))
	fails(t, "pit is shaken", d, begin(2), api.ErrScope)
	d = mustRun(t, d, observe(seen("seen", "0", "4")), verify(0), begin(2), verify(1), begin(1))
	equal(t, "the wall is taken", d.Standing, []bool{false})
}

// TestKinds: P6.2, only listed kinds are deeds, and what a kind does not name does not matter.
func TestKinds(t *testing.T) {
	for _, kind := range []api.DeedKind{api.DeNone, 7, 8, 128, 255} {
		fails(t, fmt.Sprint("kind ", kind), begun(t), api.Deed{Kind: kind, Stage: 1, Name: "bh"}, api.ErrArg)
	}
	bad := api.Deed{Saying: api.Saying{Kind: 9, Layer: -1}, Name: "?", Stage: -1, Proofs: [][]api.Frac{{"x"}}}
	with := func(x api.Deed, change func(bad *api.Deed)) (api.Deed, api.Deed) {
		odd := bad
		odd.Kind = x.Kind
		change(&odd)
		return x, odd
	}
	check := func(d api.Dig, x, odd api.Deed) {
		t.Helper()
		out, e := stages.Apply(d, odd)
		equal(t, "odd", e, api.OK)
		equal(t, "as good", said(out), said(mustRun(t, d, x)))
	}
	stage := func(odd *api.Deed) { odd.Stage = 1 }
	d := mustRun(t, mustNew(t, exampleGround(), examplePlan()), whole(0)...)
	x, odd := with(observe(seen("x", "1", "4")), func(odd *api.Deed) { odd.Saying = seen("x", "1", "4") })
	check(d, x, odd)
	x, odd = with(retract("cs"), func(odd *api.Deed) { odd.Name = "cs" })
	check(d, x, odd)
	x, odd = with(verify(1), stage)
	check(d, x, odd)
	x, odd = with(prove(1, proofOf(12)), func(odd *api.Deed) { odd.Stage, odd.Proofs = 1, [][]api.Frac{proofOf(12)} })
	check(d, x, odd)
	d = mustRun(t, d, verify(1))
	x, odd = with(begin(1), stage)
	check(d, x, odd)
	d = mustRun(t, d, begin(1))
	x, odd = with(done(1), stage)
	check(d, x, odd)
}

// TestObserve: P6.2 and P6.4, proofs stay, with a weight 0 for each new row.
func TestObserve(t *testing.T) {
	d := begun(t)
	out := mustRun(t, d, observe(seen("a", "2", "9/2")))
	equal(t, "two rows of a top", out.Marks[0].Proofs[0], append(proofOf(12), "0", "0"))
	equal(t, "the other stage", out.Marks[1].Proofs[0], append(proofOf(12), "0", "0"))
	equal(t, "the ground", out.Ground.Sayings, append(exampleGround().Sayings, seen("a", "2", "9/2")))
	rest := out
	rest.Ground, rest.Marks = d.Ground, d.Marks
	equal(t, "all else", said(rest), said(d))
	out = mustRun(t, out, observe(api.Saying{Name: "b", Kind: api.SaRow, Row: row("1 b-1-0 <= 9")}))
	equal(t, "one row", out.Marks[1].Proofs[0], append(proofOf(12), "0", "0", "0"))
	out = mustRun(t, out, observe(seen("c", "8", "9")))
	equal(t, "what excludes all models", out.Marks[1].Proofs[0], append(proofOf(12), "0", "0", "0", "0", "0"))
	equal(t, "states", []api.StageState{out.Marks[0].State, out.Marks[1].State}, []api.StageState{api.SgDone, api.SgBegun})
	d = mustRun(t, mustNew(t, exampleGround(), examplePlan()), verify(0))
	out = mustRun(t, d, observe(api.Saying{Name: "d", Kind: api.SaTrait, Trait: "cohesion", Low: "0", High: "1"}))
	equal(t, "a verified stage, a waiting one", out.Marks, []api.StageMark{{State: api.SgVerified, Proofs: [][]api.Frac{append(proofOf(12), "0", "0")}}, {}})
}

// TestObserveErrors: P6.2, the errors of ground.Add.
func TestObserveErrors(t *testing.T) {
	for _, c := range []struct {
		s    api.Saying
		want api.Errno
	}{
		{api.Saying{}, api.ErrName},
		{seen("bh", "2", "1"), api.ErrTwice},
		{api.Saying{Name: "x"}, api.ErrArg},
		{api.Saying{Name: "x", Kind: api.SaTop}, api.ErrNone},
		{api.Saying{Name: "x", Kind: api.SaTop, Layer: 1, X: -1}, api.ErrScope},
		{seen("x", "", "1"), api.ErrForm},
		{seen("x", "1", "1000000000000"), api.ErrLimit},
		{seen("x", "2", "1"), api.ErrArg},
		{api.Saying{Name: "x", Kind: api.SaRow, Row: row("1 zz <= 1")}, api.ErrNone},
	} {
		fails(t, said(c.s), begun(t), observe(c.s), c.want)
		_, e := ground.Add(exampleGround(), c.s)
		equal(t, "as ground.Add", e, c.want)
	}
	d := mustNew(t, exampleGround(), examplePlan())
	for i := range api.MaxSayings - 2 {
		d = mustRun(t, d, observe(seen(fmt.Sprintf("x%d", i), "0", "9")))
	}
	d = mustRun(t, d, verify(0))
	fails(t, "one statement too many", d, observe(seen("more", "0", "9")), api.ErrLimit)
	equal(t, "as many weights as rows", len(d.Marks[0].Proofs[0]), 16+2*38)
}

// TestRetract: P6.2 and P6.4, just those stages lose their proofs whose proofs rest on the statement.
func TestRetract(t *testing.T) {
	d := begun(t)
	fails(t, "no such statement", d, retract("x"), api.ErrNone)
	fails(t, "no name", d, retract(""), api.ErrNone)
	out := mustRun(t, d, retract("cs"))
	equal(t, "no proof rests on it", out.Marks, []api.StageMark{
		{State: api.SgDone, Proofs: [][]api.Frac{proofOf(12)[:14]}}, {State: api.SgBegun, Proofs: [][]api.Frac{proofOf(12)[:14]}},
	})
	equal(t, "the ground", out.Ground.Sayings, exampleGround().Sayings[:1])
	rest := out
	rest.Ground, rest.Marks = d.Ground, d.Marks
	equal(t, "all else", said(rest), said(d))
	out = mustRun(t, d, retract("bh"))
	equal(t, "a stage that is done, and one that has begun", out.Marks, []api.StageMark{{State: api.SgDone, Shaken: true}, {State: api.SgBegun, Shaken: true}})
	again := mustRun(t, out, retract("cs"))
	equal(t, "shaken ones stay so", again.Marks, out.Marks)
	equal(t, "nothing is left", len(again.Ground.Sayings), 0)
}

// TestRetractSome: P6.2, one proof of several is enough, and only weights of the statement's rows count.
func TestRetractSome(t *testing.T) {
	p := plan(0, api.Stage{Demands: []api.Row{row("1 b-1-0 <= 20"), row("1 t-cohesion-1 <= 40")}}, api.Stage{Demands: []api.Row{row("1 b-1-0 <= 5")}}, api.Stage{})
	d := mustNew(t, exampleGround(), p)
	byOrder := slices.Repeat(weights("0"), 16)
	byOrder[1], byOrder[2] = "1", "1" // b-1-0 at most b-2-0, that at most 20
	d = mustRun(t, d, prove(0, byOrder, proofOf(14)), prove(1, proofOf(12)), verify(2))
	out := mustRun(t, d, retract("cs"))
	equal(t, "the second proof rests on it", out.Marks[0], api.StageMark{})
	equal(t, "no proof rests on it", out.Marks[1], api.StageMark{State: api.SgVerified, Proofs: [][]api.Frac{proofOf(12)[:14]}})
	equal(t, "no proofs", out.Marks[2], api.StageMark{State: api.SgVerified})
	out = mustRun(t, d, retract("bh"))
	equal(t, "without the weights of these rows", out.Marks[0].Proofs, [][]api.Frac{byOrder[:14], proofOf(14)[2:]})
	equal(t, "the only proof rests on it", out.Marks[1], api.StageMark{})
	equal(t, "no proofs", out.Marks[2], api.StageMark{State: api.SgVerified})
}

// TestVerify: P6.2, the errors of DeVerify in their order, and what it does.
func TestVerify(t *testing.T) {
	fresh := mustNew(t, exampleGround(), examplePlan())
	clash := mustRun(t, fresh, verify(0), observe(seen("x", "8", "9")))
	for _, stage := range []int{-1, 2, -1 << 63, 1<<63 - 1} {
		fails(t, "no such stage", clash, verify(stage), api.ErrNone)
	}
	fails(t, "verified, and no model", clash, verify(0), api.ErrState)
	fails(t, "no model", clash, verify(1), api.ErrClash)
	d := mustRun(t, fresh, verify(0))
	equal(t, "verified", d.Marks[0].State, api.SgVerified)
	fails(t, "verified", d, verify(0), api.ErrState)
	d = mustRun(t, d, begin(0))
	fails(t, "begun", d, verify(0), api.ErrState)
	d = mustRun(t, d, done(0))
	fails(t, "done", d, verify(0), api.ErrState)
	p := examplePlan()
	p.Stages[1].Demands = append(p.Stages[1].Demands, row("1 b-1-0 <= 39999/10000"))
	fails(t, "the second demand is not implied", mustNew(t, exampleGround(), p), verify(1), api.ErrSum)
	clash = mustNew(t, exampleGround(), p)
	clash = mustRun(t, clash, observe(seen("x", "8", "9")))
	fails(t, "no model, and a demand that none keeps", clash, verify(1), api.ErrClash)
	d = mustRun(t, mustNew(t, exampleGround(), plan(0, api.Stage{})), verify(0))
	equal(t, "no demands", d.Marks, []api.StageMark{{State: api.SgVerified}})
	clash = mustRun(t, mustNew(t, exampleGround(), plan(0, api.Stage{})), observe(seen("x", "8", "9")))
	fails(t, "no model, and no demands", clash, verify(0), api.ErrClash)
}

// TestVerifyShaken: P6.2, a shaken stage goes on where it was.
func TestVerifyShaken(t *testing.T) {
	d := mustRun(t, begun(t), retract("bh"), observe(seen("again", "1", "2")))
	equal(t, "both are shaken", d.Marks, []api.StageMark{{State: api.SgDone, Shaken: true}, {State: api.SgBegun, Shaken: true}})
	out := mustRun(t, d, verify(1))
	equal(t, "floor", []any{out.Marks[1].State, out.Marks[1].Shaken, len(out.Marks[1].Proofs)}, []any{api.SgBegun, false, 1})
	equal(t, "pit", out.Marks[0], d.Marks[0])
	out = mustRun(t, out, prove(0, proofOf(14)))
	equal(t, "pit", out.Marks[0], api.StageMark{State: api.SgDone, Proofs: [][]api.Frac{proofOf(14)}})
	equal(t, "nothing else", []any{out.Standing, said(out.Plan)}, []any{d.Standing, said(d.Plan)})
	clash := mustRun(t, d, observe(seen("x", "8", "9")))
	fails(t, "no model", clash, verify(0), api.ErrClash)
	d = mustRun(t, d, done(1))
	equal(t, "a shaken stage is ended", d.Marks[1], api.StageMark{State: api.SgDone, Shaken: true})
}

// TestProve: P6.2, the errors of DeProve in their order, and what it does.
func TestProve(t *testing.T) {
	fresh := mustNew(t, exampleGround(), examplePlan())
	clash := mustRun(t, fresh, verify(0), observe(seen("x", "8", "9")))
	for _, stage := range []int{-1, 2, -1 << 63, 1<<63 - 1} {
		fails(t, "no such stage", clash, prove(stage, nil), api.ErrNone)
	}
	fails(t, "verified, no model, no proof", clash, prove(0), api.ErrState)
	fails(t, "no model, no proof", clash, prove(1), api.ErrClash)
	empty := slices.Repeat(weights("0"), 18)
	empty[12], empty[17] = "1", "1" // at most 4, at least 8
	fails(t, "no model, and a proof of that", clash, prove(1, empty), api.ErrClash)
	for what, proofs := range map[string][][]api.Frac{
		"no proof":               nil,
		"two proofs":             {proofOf(12), proofOf(12)},
		"a proof of nothing":     {nil},
		"weights that are none":  {append(proofOf(12)[:15], "x")},
		"a weight below 0":       {append(proofOf(12)[:15], "-1")},
		"a weight less":          {proofOf(12)[:15]},
		"a weight more":          {append(proofOf(12), "0")},
		"weights of another row": {proofOf(13)},
		"weights that are 0":     {proofOf(12)[:12]},
	} {
		fails(t, what, fresh, prove(1, proofs...), api.ErrSum)
	}
	x := prove(1, proofOf(12))
	d := mustRun(t, fresh, x)
	equal(t, "verified", d.Marks, []api.StageMark{{}, {State: api.SgVerified, Proofs: x.Proofs}})
	fails(t, "verified", d, x, api.ErrState)
	long := slices.Repeat(weights("0"), 16)
	long[12], long[0] = "4/3", "1/3"
	d = mustRun(t, mustNew(t, exampleGround(), plan(0, api.Stage{Demands: []api.Row{row("1 b-1-0 <= 16/3")}})), prove(0, long))
	equal(t, "another proof than the shortest one", d.Marks[0].Proofs, [][]api.Frac{long})
	d = mustNew(t, exampleGround(), plan(0, api.Stage{}))
	fails(t, "a proof of no demand", d, prove(0, proofOf(12)), api.ErrSum)
	equal(t, "no demands", mustRun(t, d, prove(0)).Marks, []api.StageMark{{State: api.SgVerified}})
}

// TestBegin: P6.2, the errors of DeBegin in their order.
func TestBegin(t *testing.T) {
	p := plan(3,
		api.Stage{Sets: []int{0, 1, 2}, Demands: []api.Row{row("1 b-1-0 <= 5")}},
		api.Stage{Rests: []int{0}, Takes: []int{1}},
		api.Stage{After: []int{0}, Rests: []int{1}, Takes: []int{2}},
		api.Stage{Takes: []int{0}},
		api.Stage{Rests: []int{2}},
		api.Stage{},
	)
	fresh := mustNew(t, exampleGround(), p)
	for _, stage := range []int{-1, 6, -1 << 63, 1<<63 - 1} {
		fails(t, "no such stage", fresh, begin(stage), api.ErrNone)
	}
	// all of it at once: the stage 1 has begun, the stage 0 is shaken, no model is allowed, nothing stands
	d := mustRun(t, fresh, deeds(whole(0), []api.Deed{verify(1), begin(1), verify(2), retract("bh"), observe(seen("x", "8", "8")), observe(seen("y", "9", "9"))})...)
	d.Standing = make([]bool, 3)
	d.Marks[0].State = api.SgDone
	fails(t, "not verified", d, begin(3), api.ErrState)
	fails(t, "begun", d, begin(1), api.ErrState)
	fails(t, "done, and shaken", d, begin(0), api.ErrState)
	fails(t, "no model", d, begin(2), api.ErrClash)
	d = mustRun(t, d, retract("y"))
	fails(t, "the stage 0 is shaken", d, begin(2), api.ErrScope)
	d = mustRun(t, d, retract("x"), observe(seen("z", "1", "2")), verify(0))
	behind := copied(d)
	behind.Plan.Stages[0].Demands, behind.Marks[0] = nil, api.StageMark{State: api.SgBegun}
	fails(t, "the stage 0 is not done", behind, begin(2), api.ErrLoop)
	behind.Marks[0].State = api.SgVerified
	fails(t, "the stage 0 has not begun", behind, begin(2), api.ErrLoop)
	behind.Marks[0].State, behind.Standing = api.SgBegun, []bool{true, true, true}
	fails(t, "the stage 0 is not done, all stands", behind, begin(2), api.ErrLoop)
	fails(t, "the stage 1 takes what it rests on", d, begin(2), api.ErrTwice)
	d.Standing = []bool{true, true, true}
	fails(t, "the stage 1 takes what it rests on, and all stands", d, begin(2), api.ErrTwice)
	d = mustRun(t, d, verify(3), verify(4), verify(5))
	fails(t, "it takes what the stage 1 rests on", d, begin(3), api.ErrTwice)
	d.Standing[0] = false
	fails(t, "it takes what the stage 1 rests on, and that does not stand", d, begin(3), api.ErrTwice)
	d = mustRun(t, d, done(1))
	fails(t, "what it takes does not stand", d, begin(3), api.ErrArg)
	d.Standing = []bool{true, false, true}
	fails(t, "what it rests on does not stand", d, begin(2), api.ErrArg)
	d.Standing = []bool{true, true, false}
	fails(t, "what it takes does not stand", d, begin(2), api.ErrArg)
	fails(t, "what it rests on does not stand", d, begin(4), api.ErrArg)
	d = mustRun(t, d, begin(5), begin(3))
	equal(t, "the support 0 is taken", d.Standing, []bool{false, true, false})
}

// TestBeside: P6.2, what may go on beside each other.
func TestBeside(t *testing.T) {
	p := plan(2,
		api.Stage{Sets: []int{0, 1}},
		api.Stage{Rests: []int{0}},
		api.Stage{Rests: []int{0}, Takes: []int{1}},
		api.Stage{Rests: []int{1}},
		api.Stage{Takes: []int{1}},
	)
	d := mustNew(t, exampleGround(), p)
	d = mustRun(t, d, deeds(whole(0), []api.Deed{verify(1), verify(2), verify(3), verify(4), begin(1), begin(2)})...)
	equal(t, "two that rest on one support", d.Standing, []bool{true, false})
	fails(t, "two that take one support", d, begin(4), api.ErrArg)
	fails(t, "one takes what another one rests on", d, begin(3), api.ErrTwice)
	d = mustRun(t, d, done(2))
	fails(t, "when that is done the support is still missing", d, begin(3), api.ErrArg)
	equal(t, "begun", d.Marks[1].State, api.SgBegun)
	own := mustNew(t, exampleGround(), plan(1, api.Stage{Sets: []int{0}}, api.Stage{Rests: []int{0}, Takes: []int{0}, Sets: []int{0}}))
	own = mustRun(t, own, deeds(whole(0), []api.Deed{verify(1), begin(1)})...)
	equal(t, "a stage takes what it rests on itself", own.Standing, []bool{false})
	equal(t, "and sets it again", mustRun(t, own, done(1)).Standing, []bool{true})
}

// TestDone: P6.2, the errors of DeDone, and what it does.
func TestDone(t *testing.T) {
	d := mustNew(t, exampleGround(), examplePlan())
	for _, stage := range []int{-1, 2, -1 << 63, 1<<63 - 1} {
		fails(t, "no such stage", d, done(stage), api.ErrNone)
	}
	fails(t, "waiting", d, done(0), api.ErrState)
	d = mustRun(t, d, verify(0))
	fails(t, "verified", d, done(0), api.ErrState)
	d = mustRun(t, d, begin(0))
	equal(t, "the wall does not stand yet", d.Standing, []bool{false})
	marks := copied(d).Marks
	d = mustRun(t, d, observe(seen("x", "8", "9")), retract("x"), done(0))
	marks[0].State = api.SgDone
	equal(t, "done, with its proofs", d.Marks, marks)
	equal(t, "the wall stands", d.Standing, []bool{true})
	fails(t, "done", d, done(0), api.ErrState)
	clash := mustRun(t, mustRun(t, mustNew(t, exampleGround(), examplePlan()), verify(0), begin(0)), observe(seen("x", "8", "9")), done(0))
	equal(t, "no model is allowed", clash.Marks[0].State, api.SgDone)
}

// TestApplyByWords: P6.2, P6.3, P6.4 and P0.3, against the chapter's words; what comes of deeds is valid; no stage begins
// before its demands hold for all models that are allowed.
func TestApplyByWords(t *testing.T) {
	r := rand.New(rand.NewSource(5))
	count := map[string]int{}
	for range 150 {
		g := randomGround(r, 4)
		d := mustNew(t, g, randomPlan(r, g, 6))
		for i := range 50 {
			x := someDeed(r, d, i)
			out, e := stages.Apply(d, x)
			alone(t, "Apply", e, out)
			var found [][]api.Frac
			if e == api.OK && x.Kind == api.DeVerify {
				found = out.Marks[x.Stage].Proofs
			}
			want, f := appliedByWords(t, d, x, found)
			equal(t, said(x, d), e, f)
			count[fmt.Sprint(x.Kind, " ", e)]++
			if e != api.OK {
				continue
			}
			equal(t, said(x, d), said(out), said(want))
			equal(t, "Check", stages.Check(out), api.OK)
			if x.Kind == api.DeBegin {
				isSafe(t, d, x.Stage)
			}
			if x.Kind == api.DeRetract && len(d.Marks) > 0 {
				count[fmt.Sprint("shaken ", slices.ContainsFunc(out.Marks, func(m api.StageMark) bool { return m.Shaken }))]++
			}
			d = out
		}
	}
	for _, what := range []string{"1 0", "1 6", "2 0", "2 7", "3 0", "3 7", "3 8", "3 10", "3 12", "4 0", "4 7", "4 8", "4 10", "4 12",
		"5 0", "5 7", "5 8", "5 9", "5 10", "5 11", "5 1", "6 0", "6 7", "6 8", "shaken true", "shaken false"} {
		if count[what] < 5 {
			t.Error("too few:", what, count)
		}
	}
	if count["5 6"] == 0 {
		t.Error("no stages that disturb each other:", count)
	}
}

// isSafe fails unless some model is allowed, all of them keep the demands of a stage, and all that it needs stands.
func isSafe(t *testing.T, d api.Dig, stage int) {
	t.Helper()
	if isClash(t, d.Ground) {
		t.Fatal("no model is allowed:", said(d))
	}
	s := d.Plan.Stages[stage]
	for _, demand := range s.Demands {
		a, e := ground.Most(d.Ground, demand.Terms)
		if e != api.OK || a.Kind != api.AnBest || rat(a.Value).Cmp(rat(demand.Bound)) > 0 {
			t.Fatal("some model does not keep", demand, said(d))
		}
	}
	for _, k := range slices.Concat(s.Rests, s.Takes) {
		if !d.Standing[k] {
			t.Fatal("something does not stand:", k, said(d))
		}
	}
}

// TestRun: P6.2, deeds behind each other.
func TestRun(t *testing.T) {
	r := rand.New(rand.NewSource(6))
	stopped, all := 0, 0
	for range 60 {
		g := randomGround(r, 3)
		start := mustNew(t, g, randomPlan(r, g, 4))
		d, want, at := start, api.OK, 0
		var l []api.Deed
		for i := range r.Intn(14) {
			x := someDeed(r, d, i)
			next, e := stages.Apply(d, x)
			if e != api.OK && r.Intn(2) == 0 {
				continue
			}
			l = append(l, x)
			if e != api.OK {
				want = e
				break
			}
			d, at = next, at+1
		}
		if want != api.OK {
			l = append(l, randomDeed(r, d, 99), observe(seen("last", "1", "9")))
			stopped++
		} else {
			all++
		}
		out, n, e := stages.Run(start, l)
		equal(t, "Run", []any{said(out), n, e}, []any{said(d), at, want})
	}
	if stopped < 15 || all < 15 {
		t.Error("too few:", stopped, all)
	}
}

// TestRunLimits: P6.2, R7, errors of Run.
func TestRunLimits(t *testing.T) {
	d := begun(t)
	var l []api.Deed
	for range 64 {
		l = append(l, observe(seen("x", "1", "9")), retract("x"))
	}
	equal(t, "128 deeds", said(mustRun(t, d, l...)), said(d))
	out, at, e := stages.Run(d, append(l, retract("x")))
	equal(t, "129 deeds", []any{at, e}, []any{0, api.ErrLimit})
	alone(t, "129 deeds", e, out)
	out, at, e = stages.Run(d, nil)
	equal(t, "no deeds", []any{said(out), at, e}, []any{said(d), 0, api.OK})
	out, at, e = stages.Run(d, []api.Deed{begin(7), retract("bh")})
	equal(t, "the first deed", []any{said(out), at, e}, []any{said(d), 0, api.ErrNone})
	out, at, e = stages.Run(d, []api.Deed{retract("bh"), {}})
	equal(t, "the second deed", []any{said(out), at, e}, []any{said(mustRun(t, d, retract("bh"))), 1, api.ErrArg})
}

// TestReady: P6.2, the stages for which DeBegin has no error.
func TestReady(t *testing.T) {
	d := mustNew(t, exampleGround(), plan(1, api.Stage{}, api.Stage{Rests: []int{0}}, api.Stage{Demands: []api.Row{row("1 b-1-0 <= 4")}}, api.Stage{After: []int{0}}))
	ready := func(d api.Dig, want ...int) {
		t.Helper()
		l, e := stages.Ready(d)
		equal(t, "error", e, api.OK)
		equal(t, "Ready", l, want)
	}
	ready(d)
	d = mustRun(t, d, verify(3), verify(2), verify(1), verify(0))
	ready(d, 0, 2)
	ready(mustRun(t, d, observe(seen("x", "8", "9"))))
	ready(mustRun(t, d, begin(2)), 0)
	ready(mustRun(t, d, begin(0), done(0)), 2, 3)
	ready(mustRun(t, d, begin(2), retract("bh")))
	ready(mustRun(t, d, retract("bh")), 0)
	ready(mustNew(t, flat(), plan(0)))
	r := rand.New(rand.NewSource(7))
	many := 0
	for range 300 {
		d := randomDig(t, r)
		for i := range d.Plan.Stages {
			if next, e := stages.Apply(d, verify(i)); e == api.OK {
				d = next
			}
		}
		var want []int
		for i := range d.Plan.Stages {
			if _, e := stages.Apply(d, begin(i)); e == api.OK {
				want = append(want, i)
			}
		}
		ready(d, want...)
		many += len(want)
	}
	if many < 30 {
		t.Error("too few:", many)
	}
}

// TestLost: P6.2, the statements that contradict each other.
func TestLost(t *testing.T) {
	d := begun(t)
	l, e := stages.Lost(d)
	equal(t, "some model is allowed", e, api.ErrNone)
	alone(t, "Lost", e, l)
	d = mustRun(t, d, observe(seen("a", "2", "9")), observe(seen("x", "8", "9")), observe(seen("y", "9", "9")))
	l, e = stages.Lost(d)
	equal(t, "Lost", []any{l, e}, []any{[]string{"bh", "y"}, api.OK})
	d = mustRun(t, d, retract("bh"))
	_, e = stages.Lost(d)
	equal(t, "some model is allowed again", e, api.ErrNone)
}
