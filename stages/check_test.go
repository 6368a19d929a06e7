package stages_test

import (
	"fmt"
	"math/rand"
	"slices"
	"strings"
	"testing"

	"underpin/api"
	"underpin/stages"
)

// given is a ground and a plan.
type given struct {
	g api.Ground
	p api.Excavation
}

func example() given {
	return given{exampleGround(), examplePlan()}
}

// floor is the second stage of the example.
func (x *given) floor() *api.Stage {
	return &x.p.Stages[1]
}

// demand makes rows the demands of the second stage.
func (x *given) demand(l ...api.Row) {
	x.floor().Demands = l
}

// term is a row of one term.
func term(name string, coef, bound api.Frac) api.Row {
	return api.Row{Terms: []api.Term{{Name: name, Coef: coef}}, Bound: bound}
}

// wide is a row of n unknowns.
func wide(n int) api.Row {
	r := api.Row{Bound: "0"}
	for i := range n {
		r.Terms = append(r.Terms, api.Term{Name: fmt.Sprintf("x%02d", i), Coef: "1"})
	}
	return r
}

// wrongGivens are changes of the example, part by part in the order of CheckPlan, with the error that each one makes.
var wrongGivens = []struct {
	part, what string
	change     func(x *given)
	want       api.Errno
}{
	{"ground", "no stations", func(x *given) { x.g.Stations = nil }, api.ErrArg},
	{"ground", "a Depth that is none", func(x *given) { x.g.Depth = "deep" }, api.ErrForm},
	{"ground", "seven layers", func(x *given) { x.g.Layers = make([]string, 7) }, api.ErrLimit},
	{"ground", "a statement twice", func(x *given) { x.g.Sayings = append(x.g.Sayings, seen("bh", "1", "2")) }, api.ErrTwice},
	{"ground", "a statement of no layer", func(x *given) { x.g.Sayings[0].Layer = 3 }, api.ErrNone},
	{"ground", "a statement beyond the stations", func(x *given) { x.g.Sayings[0].X = 11 }, api.ErrScope},
	{"supports", "17 supports", func(x *given) { x.p.Supports = plan(17).Supports }, api.ErrLimit},
	{"supports", "17 supports that are none", func(x *given) { x.p.Supports = make([]string, 17) }, api.ErrLimit},
	{"supports", "an empty name", func(x *given) { x.p.Supports = []string{"wall", ""} }, api.ErrName},
	{"supports", "a great letter", func(x *given) { x.p.Supports = []string{"Wall", "Wall"} }, api.ErrName},
	{"supports", "a digit ahead", func(x *given) { x.p.Supports[0] = "1wall" }, api.ErrName},
	{"supports", "17 bytes", func(x *given) { x.p.Supports[0] = strings.Repeat("w", 17) }, api.ErrName},
	{"supports", "any bytes", func(x *given) { x.p.Supports[0] = "w\x00\xff" }, api.ErrName},
	{"supports", "twice", func(x *given) { x.p.Supports = []string{"wall", "strut", "wall", ""} }, api.ErrTwice},
	{"stages", "25 stages", func(x *given) { x.p.Stages = plan(0, make([]api.Stage, 25)...).Stages }, api.ErrLimit},
	{"stages", "25 stages that are none", func(x *given) { x.p.Stages = make([]api.Stage, 25) }, api.ErrLimit},
	{"name", "an empty name", func(x *given) { x.floor().Name = "" }, api.ErrName},
	{"name", "a name of 17 bytes", func(x *given) { x.floor().Name = strings.Repeat("f", 17) }, api.ErrName},
	{"name", "a name with a blank", func(x *given) { x.floor().Name = "the floor" }, api.ErrName},
	{"name", "a stage twice", func(x *given) { x.floor().Name = "pit" }, api.ErrTwice},
	{"after", "below 0", func(x *given) { x.floor().After = []int{-1, -1} }, api.ErrNone},
	{"after", "itself", func(x *given) { x.floor().After = []int{1} }, api.ErrNone},
	{"after", "one behind it", func(x *given) { x.floor().After = []int{0, 2, 0} }, api.ErrNone},
	{"after", "as far as can be", func(x *given) { x.floor().After = []int{1<<63 - 1} }, api.ErrNone},
	{"after", "as far back as can be", func(x *given) { x.floor().After = []int{-1 << 63} }, api.ErrNone},
	{"after", "twice", func(x *given) { x.floor().After = []int{0, 0, 7} }, api.ErrTwice},
	{"after", "a long list", func(x *given) { x.floor().After = make([]int, 100000) }, api.ErrTwice},
	{"rests", "below 0", func(x *given) { x.floor().Rests = []int{-1} }, api.ErrNone},
	{"rests", "no support", func(x *given) { x.floor().Rests = []int{16, 0, 0} }, api.ErrNone},
	{"rests", "far from any", func(x *given) { x.floor().Rests = []int{1 << 32} }, api.ErrNone},
	{"rests", "twice", func(x *given) { x.floor().Rests = []int{0, 0, 16} }, api.ErrTwice},
	{"takes", "below 0", func(x *given) { x.floor().Takes = []int{0, -1, 0} }, api.ErrNone},
	{"takes", "no support", func(x *given) { x.floor().Takes = []int{16} }, api.ErrNone},
	{"takes", "twice", func(x *given) { x.floor().Takes = []int{0, 0} }, api.ErrTwice},
	{"sets", "below 0", func(x *given) { x.floor().Sets = []int{-1 << 63} }, api.ErrNone},
	{"sets", "no support", func(x *given) { x.floor().Sets = []int{16} }, api.ErrNone},
	{"sets", "twice", func(x *given) { x.floor().Sets = []int{0, 0, -1} }, api.ErrTwice},
	{"demands", "7 demands", func(x *given) { x.demand(slices.Repeat([]api.Row{row("1 b-1-0 <= 1")}, 7)...) }, api.ErrLimit},
	{"demands", "7 demands that are none", func(x *given) { x.demand(make([]api.Row, 7)...) }, api.ErrLimit},
	{"demands", "no name", func(x *given) { x.demand(term("B", "x", "")) }, api.ErrName},
	{"demands", "a Coef that is none", func(x *given) { x.demand(term("b-1-0", "2/4", "")) }, api.ErrForm},
	{"demands", "a Coef 0", func(x *given) { x.demand(term("zz", "0", "")) }, api.ErrArg},
	{"demands", "a long Coef", func(x *given) { x.demand(term("zz", "1/1000000000000", "")) }, api.ErrLimit},
	{"demands", "an unknown twice", func(x *given) {
		x.demand(api.Row{Terms: append(term("zz", "1", "").Terms, term("zz", "2", "").Terms...)})
	}, api.ErrTwice},
	{"demands", "unknowns back", func(x *given) {
		x.demand(api.Row{Terms: append(term("zz", "1", "").Terms, term("z", "2", "").Terms...)})
	}, api.ErrArg},
	{"demands", "no Bound", func(x *given) { x.demand(term("zz", "1", "")) }, api.ErrForm},
	{"demands", "a long Bound", func(x *given) { x.demand(term("zz", "1", "-1000000000000")) }, api.ErrLimit},
	{"demands", "81 unknowns", func(x *given) { x.demand(wide(81)) }, api.ErrLimit},
	{"demands", "80 unknowns", func(x *given) { x.demand(wide(80)) }, api.ErrScope},
	{"demands", "an unknown that the ground has not", func(x *given) { x.demand(row("1 b-1-0 1 b-1-2 <= 1")) }, api.ErrScope},
	{"demands", "a trait that the ground has not", func(x *given) { x.demand(row("1 t-cohesion-3 <= 1")) }, api.ErrScope},
	{"demands", "the top of the first layer", func(x *given) { x.demand(row("1 b-0-0 <= 1")) }, api.ErrScope},
	{"demands", "the first of two", func(x *given) { x.demand(row("1 b-3-0 <= 1"), term("B", "x", "")) }, api.ErrScope},
	{"demands", "the second of two", func(x *given) { x.demand(row("1 b-1-0 <= 1"), term("B", "x", "")) }, api.ErrName},
}

// errors calls all functions with a ground and a plan, fails if there is a result beside an error, and returns the errors.
func (x given) errors(t *testing.T) []api.Errno {
	t.Helper()
	check := stages.CheckPlan(x.g, x.p)
	d, e := stages.New(x.g, x.p)
	alone(t, "New", e, d)
	order, f := stages.Order(x.g, x.p)
	alone(t, "Order", f, order)
	d = api.Dig{Ground: x.g, Plan: x.p}
	out, at, h := stages.Run(d, make([]api.Deed, 129))
	alone(t, "Run", h, out, at)
	fails(t, "Apply", d, api.Deed{Kind: 99}, stages.Check(d))
	ready, i := stages.Ready(d)
	alone(t, "Ready", i, ready)
	lost, j := stages.Lost(d)
	alone(t, "Lost", j, lost)
	return []api.Errno{check, e, f, stages.Check(d), h, i, j}
}

// TestCheckPlan: P6.1 and P6.2, each function returns the error of the ground and the plan.
func TestCheckPlan(t *testing.T) {
	equal(t, "the example", stages.CheckPlan(exampleGround(), examplePlan()), api.OK)
	for _, c := range wrongGivens {
		x := example()
		c.change(&x)
		equal(t, c.part+": "+c.what, x.errors(t), slices.Repeat([]api.Errno{c.want}, 7))
	}
}

// TestCheckPlanOrder: P6.1 and R1, of the errors in two parts the first one counts.
func TestCheckPlanOrder(t *testing.T) {
	for i, first := range wrongGivens {
		for _, then := range wrongGivens[i+1:] {
			if first.part != then.part {
				x := example()
				then.change(&x)
				first.change(&x)
				equal(t, first.part+": "+first.what+", "+then.part+": "+then.what, stages.CheckPlan(x.g, x.p), first.want)
			}
		}
	}
}

// TestCheckPlanFirstStage: P6.1 and R1, of two stages the first one counts, whatever the errors are.
func TestCheckPlanFirstStage(t *testing.T) {
	x := example()
	x.p.Stages[0].Demands, x.floor().Name = []api.Row{row("1 b-3-0 <= 1")}, ""
	equal(t, "a demand, then a name", stages.CheckPlan(x.g, x.p), api.ErrScope)
	x = example()
	x.p.Stages[0].Sets, x.floor().After = []int{0, 0}, []int{1}
	equal(t, "Sets, then After", stages.CheckPlan(x.g, x.p), api.ErrTwice)
	x = example()
	x.p.Stages[0].After = []int{0}
	equal(t, "the first stage needs itself", stages.CheckPlan(x.g, x.p), api.ErrNone)
	x.p.Stages[0].After = []int{1}
	equal(t, "the first stage needs one behind it", stages.CheckPlan(x.g, x.p), api.ErrNone)
	x = example()
	x.p.Stages[0].Name, x.floor().Name = "floor", "pit"
	equal(t, "other names", stages.CheckPlan(x.g, x.p), api.OK)
}

// largest is a plan with as much of everything as may be.
func largest() given {
	x := given{exampleGround(), plan(16)}
	for k := range x.p.Supports {
		x.p.Supports[k] = fmt.Sprintf("abcdefghijklmn%02d", k)
	}
	for i := range 24 {
		all := func(n int) []int {
			l := rand.New(rand.NewSource(int64(i))).Perm(n)
			return l
		}
		s := api.Stage{Name: fmt.Sprintf("abcdefghijklmn%02d", i), After: all(i), Rests: all(16), Takes: all(16), Sets: all(16)}
		s.Demands = slices.Repeat([]api.Row{{Bound: "999999999999/999999999998"}, row("999999999999 b-1-0 -1/999999999999 t-cohesion-2 <= -999999999999")}, 3)
		x.p.Stages = append(x.p.Stages, s)
	}
	return x
}

// TestCheckPlanLimits: P6.1 and R7, at most n includes n.
func TestCheckPlanLimits(t *testing.T) {
	x := largest()
	equal(t, "all at once", stages.CheckPlan(x.g, x.p), api.OK)
	equal(t, "a new dig of all", stages.Check(mustNew(t, x.g, x.p)), api.OK)
	_, e := stages.Order(x.g, x.p)
	equal(t, "nothing stands at first", e, api.ErrScope)
	equal(t, "nothing", stages.CheckPlan(flat(), api.Excavation{}), api.OK)
	equal(t, "supports without stages", stages.CheckPlan(flat(), plan(3)), api.OK)
	order, e := stages.Order(flat(), plan(3))
	equal(t, "no stages", []any{len(order), e}, []any{0, api.OK})
	x = example()
	x.p.Supports[0], x.p.Stages[0].Demands = "pit", []api.Row{{Bound: "-1"}}
	equal(t, "a support of the name of a stage, a demand without unknowns", stages.CheckPlan(x.g, x.p), api.OK)
}

// TestNew: P6.1, nothing has been done.
func TestNew(t *testing.T) {
	d, e := stages.New(exampleGround(), examplePlan())
	equal(t, "error", e, api.OK)
	want := api.Dig{Ground: exampleGround(), Plan: examplePlan(), Marks: make([]api.StageMark, 2), Standing: make([]bool, 1)}
	equal(t, "dig", said(d), said(want))
	equal(t, "marks and standing", []any{d.Marks, d.Standing}, []any{want.Marks, want.Standing})
	equal(t, "Check", stages.Check(d), api.OK)
	g := exampleGround()
	g.Sayings = append(g.Sayings, seen("x", "8", "9"))
	d = mustNew(t, g, examplePlan())
	equal(t, "also if no model is allowed", stages.Check(d), api.OK)
}

// proofOf is the weights for the rows of the example of which one is 1: the number 12 says that b-1-0 is at most 4.
func proofOf(row int) []api.Frac {
	l := slices.Repeat(weights("0"), 16)
	l[row] = "1"
	return l
}

// begun is the example with pit done, and floor begun.
func begun(t testing.TB) api.Dig {
	t.Helper()
	return mustRun(t, mustNew(t, exampleGround(), examplePlan()), append(whole(0), verify(1), begin(1))...)
}

// wrongDigs are changes of the example with pit done and floor begun, part by part in the order of Check.
var wrongDigs = []struct {
	part, what string
	change     func(d *api.Dig)
	want       api.Errno
}{
	{"plan", "the ground", func(d *api.Dig) { d.Ground.Depth = "x" }, api.ErrForm},
	{"plan", "a support", func(d *api.Dig) { d.Plan.Supports[0] = "" }, api.ErrName},
	{"plan", "a demand", func(d *api.Dig) { d.Plan.Stages[1].Demands[0].Terms[0].Name = "b-9-9" }, api.ErrScope},
	{"lengths", "no marks", func(d *api.Dig) { d.Marks = nil }, api.ErrArg},
	{"lengths", "a mark less", func(d *api.Dig) { d.Marks = d.Marks[:1] }, api.ErrArg},
	{"lengths", "a mark more", func(d *api.Dig) { d.Marks = append(d.Marks, api.StageMark{}) }, api.ErrArg},
	{"lengths", "too little of Standing", func(d *api.Dig) { d.Standing = nil }, api.ErrArg},
	{"lengths", "too much of Standing", func(d *api.Dig) { d.Standing = append(d.Standing, false) }, api.ErrArg},
	{"0 state", "no kind", func(d *api.Dig) { d.Marks[0].State = 4 }, api.ErrArg},
	{"0 state", "no kind", func(d *api.Dig) { d.Marks[0].State = 255 }, api.ErrArg},
	{"0 state", "a waiting one is shaken", func(d *api.Dig) { d.Marks[0] = api.StageMark{Shaken: true} }, api.ErrArg},
	{"0 state", "a verified one is shaken", func(d *api.Dig) { d.Marks[0] = api.StageMark{State: 1, Shaken: true} }, api.ErrArg},
	{"0 state", "a waiting one has a proof", func(d *api.Dig) { d.Marks[0] = api.StageMark{Proofs: [][]api.Frac{proofOf(12)}} }, api.ErrArg},
	{"0 state", "a shaken one has a proof", func(d *api.Dig) {
		d.Marks[0] = api.StageMark{State: 3, Shaken: true, Proofs: [][]api.Frac{proofOf(12)}}
	}, api.ErrArg},
	{"0 proofs", "none", func(d *api.Dig) { d.Marks[0].Proofs = nil }, api.ErrSum},
	{"0 proofs", "an empty one", func(d *api.Dig) { d.Marks[0].Proofs[0] = nil }, api.ErrSum},
	{"1 state", "no kind", func(d *api.Dig) { d.Marks[1] = api.StageMark{State: 4, Shaken: true} }, api.ErrArg},
	{"1 state", "a verified one is shaken", func(d *api.Dig) { d.Marks[1] = api.StageMark{State: 1, Shaken: true} }, api.ErrArg},
	{"1 state", "a waiting one has a proof of nothing", func(d *api.Dig) { d.Marks[1] = api.StageMark{Proofs: [][]api.Frac{nil}} }, api.ErrArg},
	{"1 state", "a shaken one has a proof of nothing", func(d *api.Dig) {
		d.Marks[1] = api.StageMark{State: 2, Shaken: true, Proofs: [][]api.Frac{nil}}
	}, api.ErrArg},
	{"1 state", "a shaken one that is done has a proof", func(d *api.Dig) {
		d.Marks[1] = api.StageMark{State: 3, Shaken: true, Proofs: [][]api.Frac{proofOf(12)}}
	}, api.ErrArg},
	{"1 after", "pit is waiting", func(d *api.Dig) { d.Marks[0] = api.StageMark{} }, api.ErrState},
	{"1 after", "pit is verified", func(d *api.Dig) { d.Marks[0].State = 1 }, api.ErrState},
	{"1 after", "pit is begun", func(d *api.Dig) { d.Marks[0].State = 2 }, api.ErrState},
	{"1 after", "pit is begun, and shaken", func(d *api.Dig) { d.Marks[0] = api.StageMark{State: 2, Shaken: true} }, api.ErrState},
	{"1 proofs", "none", func(d *api.Dig) { d.Marks[1].Proofs = [][]api.Frac{} }, api.ErrSum},
	{"1 proofs", "one too many", func(d *api.Dig) { d.Marks[1].Proofs = slices.Repeat(d.Marks[1].Proofs, 2) }, api.ErrSum},
	{"1 proofs", "a weight less", func(d *api.Dig) { d.Marks[1].Proofs[0] = d.Marks[1].Proofs[0][:15] }, api.ErrSum},
	{"1 proofs", "a weight more", func(d *api.Dig) { d.Marks[1].Proofs[0] = append(d.Marks[1].Proofs[0], "0") }, api.ErrSum},
	{"1 proofs", "a weight that is none", func(d *api.Dig) { d.Marks[1].Proofs[0][0] = "00" }, api.ErrSum},
	{"1 proofs", "a weight below 0", func(d *api.Dig) { d.Marks[1].Proofs[0][0] = "-1" }, api.ErrSum},
	{"1 proofs", "nothing proved", func(d *api.Dig) { d.Marks[1].Proofs[0] = slices.Repeat(weights("0"), 16) }, api.ErrSum},
	{"1 proofs", "too much", func(d *api.Dig) { d.Marks[1].Proofs[0][12] = "2" }, api.ErrSum},
	{"1 proofs", "another demand", func(d *api.Dig) { d.Plan.Stages[1].Demands[0].Bound = "7/2" }, api.ErrSum},
	{"1 proofs", "another ground", func(d *api.Dig) { d.Ground.Sayings[0].High = "5" }, api.ErrSum},
	{"1 proofs", "a demand more", func(d *api.Dig) { d.Plan.Stages[1].Demands = append(d.Plan.Stages[1].Demands, api.Row{Bound: "0"}) }, api.ErrSum},
}

// digErrors calls all functions with a dig, fails if there is a result beside an error, and returns the errors.
func digErrors(t *testing.T, d api.Dig) []api.Errno {
	t.Helper()
	check := stages.Check(d)
	out, e := stages.Apply(d, api.Deed{})
	alone(t, "Apply", e, out)
	out, at, f := stages.Run(d, make([]api.Deed, 129))
	alone(t, "Run", f, out, at)
	ready, g := stages.Ready(d)
	alone(t, "Ready", g, ready)
	lost, h := stages.Lost(d)
	alone(t, "Lost", h, lost)
	return []api.Errno{check, e, f, g, h}
}

// TestCheck: P6.1 and P6.2, each function returns the error of the dig.
func TestCheck(t *testing.T) {
	equal(t, "the example", stages.Check(begun(t)), api.OK)
	for _, c := range wrongDigs {
		d := begun(t)
		c.change(&d)
		equal(t, c.part+": "+c.what, digErrors(t, d), slices.Repeat([]api.Errno{c.want}, 5))
	}
	equal(t, "nothing", stages.Check(api.Dig{}), api.ErrArg)
}

// TestCheckOrder: P6.1 and R1, of the errors in two parts the first one counts.
func TestCheckOrder(t *testing.T) {
	for i, first := range wrongDigs {
		for _, then := range wrongDigs[i+1:] {
			if first.part == then.part || first.part == "lengths" || first.part[:1] == "0" && then.part == "1 after" {
				continue
			}
			d := begun(t)
			then.change(&d)
			first.change(&d)
			equal(t, first.part+": "+first.what+", "+then.part+": "+then.what, stages.Check(d), first.want)
		}
	}
	d := begun(t)
	d.Standing, d.Marks[0].State = nil, 9
	equal(t, "lengths, then marks", stages.Check(d), api.ErrArg)
	d = begun(t)
	d.Marks[0].Proofs, d.Standing = nil, nil
	equal(t, "lengths, then proofs", stages.Check(d), api.ErrArg)
	d = begun(t)
	d.Marks[0].State, d.Marks[0].Proofs[0] = 1, nil
	equal(t, "the proofs of a stage, then what the next one is behind", stages.Check(d), api.ErrSum)
	d = begun(t)
	d.Marks[0].State, d.Marks[1].Proofs = 1, nil
	equal(t, "what a stage is behind, then its proofs", stages.Check(d), api.ErrState)
	d.Marks[1].Proofs, d.Marks[1].Shaken = [][]api.Frac{nil}, true
	equal(t, "the proofs of a shaken one, then what it is behind", stages.Check(d), api.ErrArg)
}

// TestCheckAllowed: P6.1, what digs may be.
func TestCheckAllowed(t *testing.T) {
	for what, change := range map[string]func(d *api.Dig){
		"floor is done":                func(d *api.Dig) { d.Marks[1].State = 3 },
		"floor is verified":            func(d *api.Dig) { d.Marks[1].State = 1 },
		"floor is waiting":             func(d *api.Dig) { d.Marks[1] = api.StageMark{Proofs: [][]api.Frac{}} },
		"floor is shaken":              func(d *api.Dig) { d.Marks[1] = api.StageMark{State: 2, Shaken: true} },
		"both are shaken":              func(d *api.Dig) { d.Marks = []api.StageMark{{State: 3, Shaken: true}, {State: 3, Shaken: true}} },
		"floor is verified ahead":      func(d *api.Dig) { d.Marks[0], d.Marks[1].State = api.StageMark{}, 1 },
		"the wall stands all the same": func(d *api.Dig) { d.Standing[0] = true },
		"a wall that nothing sets":     func(d *api.Dig) { d.Plan.Supports, d.Standing = []string{"wall", "strut"}, []bool{false, true} },
		"a support that never stood":   func(d *api.Dig) { d.Plan.Stages[0].Sets = nil },
		"no model is allowed": func(d *api.Dig) {
			d.Ground.Sayings[0].Low, d.Ground.Sayings[1].Low = "0", "30"
			d.Ground.Sayings[0].High = "0"
		},
	} {
		d := begun(t)
		change(&d)
		equal(t, what, stages.Check(d), api.OK)
	}
	d := mustNew(t, exampleGround(), plan(0, api.Stage{}))
	d.Marks[0].State = api.SgVerified
	equal(t, "no demands", stages.Check(d), api.OK)
	d.Marks[0].Proofs = [][]api.Frac{slices.Repeat(weights("0"), 16)}
	equal(t, "no demands, but a proof", stages.Check(d), api.ErrSum)
}

// TestCheckEmptyProof: P6.1, a proof that no model is allowed is a proof of any demand.
func TestCheckEmptyProof(t *testing.T) {
	g := exampleGround()
	g.Sayings = []api.Saying{seen("a", "1", "2"), seen("b", "5", "6")}
	d := mustNew(t, g, examplePlan())
	rows := len(mustRows(t, g))
	proof := slices.Repeat(weights("0"), rows)
	proof[rows-4], proof[rows-1] = "1/3", "1/3" // at most 2, at least 5
	d.Marks[1] = api.StageMark{State: api.SgVerified, Proofs: [][]api.Frac{proof}}
	equal(t, "Check", stages.Check(d), api.OK)
	d.Marks[1].Proofs[0][rows-4] = "1/2"
	equal(t, "Check", stages.Check(d), api.ErrSum)
}

// TestCheckByWords: P6.1, against the chapter's words.
func TestCheckByWords(t *testing.T) {
	r := rand.New(rand.NewSource(1))
	count := map[api.Errno]int{}
	for range 800 {
		d := randomDig(t, r)
		for range r.Intn(3) {
			spoil(r, &d)
		}
		want := checkedByWords(t, d)
		equal(t, said(d), stages.Check(d), want)
		count[want]++
	}
	for _, e := range []api.Errno{api.OK, api.ErrArg, api.ErrState, api.ErrSum} {
		if count[e] < 10 {
			t.Error("too few:", e, count)
		}
	}
}

// spoil changes something of a dig but its plan.
func spoil(r *rand.Rand, d *api.Dig) {
	*d = copied(*d)
	if len(d.Marks) == 0 {
		return
	}
	m := &d.Marks[r.Intn(len(d.Marks))]
	switch r.Intn(7) {
	case 0:
		m.State = api.StageState(r.Intn(5))
	case 1:
		*m = api.StageMark{}
	case 6:
		for i, s := range d.Plan.Stages {
			if d.Marks[i].State >= api.SgBegun && len(s.After) > 0 {
				d.Marks[s.After[r.Intn(len(s.After))]] = api.StageMark{}
			}
		}
	case 2:
		m.Shaken = !m.Shaken
	case 3:
		m.Proofs = spoiled(r, m.Proofs)
	case 4:
		m.Proofs = nil
	case 5:
		if r.Intn(4) == 0 {
			d.Marks = d.Marks[1:]
		} else if len(d.Standing) > 0 {
			d.Standing[0] = !d.Standing[0]
		}
	}
}

// randomDig makes a dig in which some deeds have been done.
func randomDig(t testing.TB, r *rand.Rand) api.Dig {
	t.Helper()
	g := randomGround(r, 4)
	d := mustNew(t, g, randomPlan(r, g, 5))
	for i := range r.Intn(60) {
		if next, e := stages.Apply(d, someDeed(r, d, i)); e == api.OK {
			d = next
		}
	}
	return d
}
