package stages_test

import (
	"fmt"
	"math/big"
	"math/rand"
	"slices"
	"testing"

	"underpin/api"
	"underpin/exact"
	"underpin/ground"
	"underpin/stages"
)

// mustOrder returns the order of a plan.
func mustOrder(t testing.TB, g api.Ground, p api.Excavation) []int {
	t.Helper()
	order, e := stages.Order(g, p)
	if e != api.OK {
		t.Fatal("Order:", e, said(p))
	}
	return order
}

// isOrder tells whether stages may be done in an order, by the words of the chapter.
func isOrder(p api.Excavation, order []int) bool {
	stands, done := map[int]bool{}, map[int]bool{}
	for _, i := range order {
		s := p.Stages[i]
		for _, k := range s.After {
			if !done[k] {
				return false
			}
		}
		for _, k := range slices.Concat(s.Rests, s.Takes) {
			if !stands[k] {
				return false
			}
		}
		for _, k := range s.Takes {
			stands[k] = false
		}
		for _, k := range s.Sets {
			stands[k] = true
		}
		done[i] = true
	}
	return len(done) == len(p.Stages) && len(order) == len(p.Stages)
}

// firstOrder returns the first order that is one, of all lists in their order; nil if there is none.
func firstOrder(p api.Excavation, so []int) []int {
	if len(so) == len(p.Stages) {
		if isOrder(p, so) {
			return slices.Clone(so)
		}
		return nil
	}
	for i := range p.Stages {
		if slices.Contains(so, i) {
			continue
		}
		if order := firstOrder(p, append(so, i)); order != nil {
			return order
		}
	}
	return nil
}

// TestOrder: P6.1, orders that were found by hand.
func TestOrder(t *testing.T) {
	equal(t, "the example", mustOrder(t, exampleGround(), examplePlan()), []int{0, 1})
	none, all := api.Stage{}, []int(nil)
	sets := func(k ...int) api.Stage { return api.Stage{Sets: k} }
	takes := func(k ...int) api.Stage { return api.Stage{Takes: k} }
	rests := func(k ...int) api.Stage { return api.Stage{Rests: k} }
	for _, c := range []struct {
		what string
		p    api.Excavation
		want []int
	}{
		{"no stages", plan(0), all},
		{"nothing said", plan(0, none, none, none), []int{0, 1, 2}},
		{"behind what sets its support", plan(1, rests(0), none, sets(0)), []int{1, 2, 0}},
		{"ahead of what takes its support", plan(1, sets(0), takes(0), rests(0)), []int{0, 2, 1}},
		{"what is taken is set again", plan(1, sets(0), takes(0), takes(0), sets(0)), []int{0, 1, 3, 2}},
		{"what stands is not set too early", plan(1, sets(0), sets(0), takes(0), takes(0)), []int{0, 2, 1, 3}},
		{"a support that a stage takes and sets", plan(1, api.Stage{Takes: []int{0}, Sets: []int{0}}, takes(0), sets(0)), []int{2, 0, 1}},
		{"Takes are needed as Rests are", plan(2, takes(1), sets(0), api.Stage{Rests: []int{0}, Sets: []int{1}}), []int{1, 2, 0}},
		{"After", plan(0, none, none, api.Stage{After: []int{1, 0}}), []int{0, 1, 2}},
		{"After against supports", plan(1, sets(0), takes(0), api.Stage{After: []int{1}, Rests: []int{0}}), nil},
		{"nothing sets it", plan(1, none, rests(0)), nil},
		{"nothing sets it to be taken", plan(1, none, takes(0)), nil},
		{"it sets itself what it takes", plan(1, api.Stage{Takes: []int{0}, Sets: []int{0}}), nil},
		{"taken twice", plan(1, sets(0), takes(0), takes(0)), nil},
		{"in a circle", plan(2, api.Stage{Rests: []int{1}, Sets: []int{0}}, api.Stage{Rests: []int{0}, Sets: []int{1}}), nil},
	} {
		order, e := stages.Order(flat(), c.p)
		if c.want == nil && len(c.p.Stages) > 0 {
			equal(t, c.what, e, api.ErrScope)
			alone(t, c.what, e, order)
			continue
		}
		equal(t, c.what, []any{fmt.Sprint(order), e}, []any{fmt.Sprint(c.want), api.OK})
	}
}

// TestOrderDemands: P6.1, demands do not matter, nor does what is allowed.
func TestOrderDemands(t *testing.T) {
	x := example()
	x.demand(row("1 b-1-0 <= -1"))
	equal(t, "a demand that is not implied", mustOrder(t, x.g, x.p), []int{0, 1})
	x.g.Sayings = append(x.g.Sayings, seen("x", "8", "9"))
	equal(t, "no model is allowed", mustOrder(t, x.g, x.p), []int{0, 1})
}

// tangle makes a plan of n stages; style says how its supports are used.
func tangle(r *rand.Rand, n, supports, style int) api.Excavation {
	p := plan(supports, make([]api.Stage, n)...)
	for i := range p.Stages {
		s := &p.Stages[i]
		some := func(often int) []int { return randomNumbers(r, supports, often) }
		switch style {
		case 0:
			s.After, s.Rests, s.Takes, s.Sets = randomNumbers(r, i, 5), some(8), some(6), some(3)
		case 1:
			s.Takes, s.Sets = some(3), some(2)
			if i < 2 {
				s.Takes = nil
			}
		case 2:
			if r.Intn(2) == 0 {
				s.Takes = []int{r.Intn(supports)}
			} else {
				s.Sets = []int{r.Intn(supports)}
			}
			if i > n/2 {
				s.Rests = some(5)
			}
		}
	}
	return p
}

// TestOrderByWords: P6.1, against all lists in their order.
func TestOrderByWords(t *testing.T) {
	r := rand.New(rand.NewSource(1))
	found, missing, other := 0, 0, 0
	for i := range 1500 {
		p := tangle(r, r.Intn(7), 1+r.Intn(3), i%3)
		want := firstOrder(p, nil)
		order, e := stages.Order(flat(), p)
		if want == nil && len(p.Stages) > 0 {
			equal(t, said(p), e, api.ErrScope)
			alone(t, "Order", e, order)
			missing++
			continue
		}
		equal(t, said(p), []any{fmt.Sprint(order), e}, []any{fmt.Sprint(want), api.OK})
		if !slices.IsSorted(order) {
			other++
		}
		found++
	}
	if found < 300 || missing < 300 || other < 100 {
		t.Error("too few:", found, missing, other)
	}
}

// TestOrderOfMany: P6.1, P0.1, plans of as many stages as may be end, with an order or without.
func TestOrderOfMany(t *testing.T) {
	ahead := make([]int, 24)
	for i := range ahead {
		ahead[i] = i
	}
	equal(t, "nothing said", mustOrder(t, flat(), plan(0, make([]api.Stage, 24)...)), ahead)
	back := plan(16, make([]api.Stage, 24)...)
	for i := range 16 {
		back.Stages[i].Rests, back.Stages[i+1].Sets = []int{i}, []int{i}
	}
	want := []int{16, 15, 14, 13, 12, 11, 10, 9, 8, 7, 6, 5, 4, 3, 2, 1, 0, 17, 18, 19, 20, 21, 22, 23}
	equal(t, "all of them back", mustOrder(t, flat(), back), want)
	back.Stages[23].Rests, back.Stages[16].Rests = []int{0}, []int{15}
	_, e := stages.Order(flat(), back)
	equal(t, "a circle behind all of them", e, api.ErrScope)
	pairs := plan(12, make([]api.Stage, 24)...)
	for k := range 12 {
		pairs.Stages[2*k].Takes, pairs.Stages[2*k+1].Sets = []int{k}, []int{k}
	}
	order := mustOrder(t, flat(), pairs)
	equal(t, "pairs", order[:6], []int{1, 0, 3, 2, 5, 4})
	pairs.Stages[23].Rests, pairs.Stages[21].After = []int{10}, []int{20}
	_, e = stages.Order(flat(), pairs)
	equal(t, "pairs, the last of which cannot be done", e, api.ErrScope)
	r := rand.New(rand.NewSource(2))
	for i := range 60 {
		p := tangle(r, 24, 1+r.Intn(16), i%3)
		order, e := stages.Order(flat(), p)
		if e == api.OK && !isOrder(p, order) || e != api.OK && e != api.ErrScope {
			t.Fatal(said(p), order, e)
		}
	}
}

// TestOrderDone: P6.6, by the deeds of an order all stages are done.
func TestOrderDone(t *testing.T) {
	r := rand.New(rand.NewSource(3))
	count := 0
	for i := range 300 {
		g := randomGround(r, 3)
		p := tangle(r, 1+r.Intn(6), 1+r.Intn(3), i%3)
		for i := range p.Stages {
			for range r.Intn(3) {
				demand := randomDemand(r, g)
				if a, _ := ground.Most(g, demand.Terms); a.Kind == api.AnBest && rat(a.Value).Cmp(rat(demand.Bound)) <= 0 {
					p.Stages[i].Demands = append(p.Stages[i].Demands, demand)
				}
			}
		}
		order, e := stages.Order(g, p)
		if e != api.OK || isClash(t, g) {
			continue
		}
		var l []api.Deed
		for _, i := range order {
			l = append(l, whole(i)...)
		}
		d := mustRun(t, mustNew(t, g, p), l...)
		for i, m := range d.Marks {
			equal(t, fmt.Sprint("stage ", i), []any{m.State, m.Shaken}, []any{api.SgDone, false})
		}
		count++
	}
	if count < 80 {
		t.Error("too few:", count)
	}
}

// TestSlack: P6.1, numbers that were found by hand.
func TestSlack(t *testing.T) {
	for line, want := range map[string]api.Frac{
		"1 b-1-0 <= 5":                  "1",
		"1 b-1-0 <= 4":                  "0",
		"1 b-1-0 <= 7/2":                "-1/2",
		"-1 b-1-0 <= 0":                 "3",
		"-1 b-1-0 <= -10/3":             "-1/3",
		"1 b-1-1 <= 0":                  "-20",
		"1/2 b-1-0 1/3 b-1-1 <= 0":      "-26/3",
		"1 b-1-0 -1 b-2-0 <= 0":         "0",
		"-1 b-1-0 1 b-2-0 <= 20":        "3",
		"1 t-cohesion-1 <= 30":          "0",
		"-2 t-cohesion-1 <= 1":          "21",
		"1 t-cohesion-0 <= 49":          "-1",
		"<= 7":                          "7",
		"<= -1/3":                       "-1/3",
		"1/999999999999 b-1-0 <= 1":     "999999999995/999999999999",
		"-999999999999 b-1-0 <= -1/999": "2996999999997002/999",
	} {
		least, free, e := stages.Slack(exampleGround(), row(line))
		equal(t, line, []any{least, free, e}, []any{want, false, api.OK})
	}
}

// TestSlackErrors: P6.1 and R1, the errors of Slack in their order.
func TestSlackErrors(t *testing.T) {
	wrong, clash := exampleGround(), exampleGround()
	wrong.Depth = "-1"
	clash.Sayings = append(clash.Sayings, seen("x", "8", "9"))
	for _, c := range []struct {
		what string
		g    api.Ground
		r    api.Row
		want api.Errno
	}{
		{"the ground, then the row", wrong, term("B", "x", ""), api.ErrArg},
		{"the ground", wrong, row("1 b-1-0 <= 1"), api.ErrArg},
		{"nothing at all", api.Ground{}, api.Row{}, api.ErrArg},
		{"no name, then no number", clash, term("B", "x", ""), api.ErrName},
		{"no number", clash, term("zz", "x", ""), api.ErrForm},
		{"no Bound", clash, term("zz", "1", ""), api.ErrForm},
		{"a Coef 0", clash, term("zz", "0", "x"), api.ErrArg},
		{"a long Bound", clash, term("zz", "1", "1/1000000000000"), api.ErrLimit},
		{"a Bound as long as numbers may be", clash, term("zz", "1", api.Frac(most)), api.ErrLimit},
		{"81 unknowns", clash, wide(81), api.ErrLimit},
		{"an unknown twice", clash, api.Row{Terms: append(term("zz", "1", "").Terms, term("zz", "1", "").Terms...)}, api.ErrTwice},
		{"an unknown that the ground has not", clash, row("1 zz <= 1"), api.ErrScope},
		{"the second unknown", clash, row("1 b-1-0 1 b-1-9 <= 1"), api.ErrScope},
		{"no model", clash, row("1 b-1-0 <= 1"), api.ErrClash},
		{"no model, no unknowns", clash, row("<= 1"), api.ErrClash},
	} {
		least, free, e := stages.Slack(c.g, c.r)
		equal(t, c.what, e, c.want)
		alone(t, c.what, e, least, free)
	}
}

// TestSlackByWords: P6.1 and P6.5, a row with that much less is implied, and one with more than that less is not; a row is
// implied just if its slack is at least 0; no statement makes a slack less.
func TestSlackByWords(t *testing.T) {
	r := rand.New(rand.NewSource(4))
	count := map[string]int{}
	for range 150 {
		g := randomGround(r, 4)
		demand := randomDemand(r, g)
		least, free, e := stages.Slack(g, demand)
		if isClash(t, g) {
			equal(t, "no model", e, api.ErrClash)
			count["no model"]++
			continue
		}
		equal(t, "Slack", []any{free, e}, []any{false, api.OK})
		tight, broken := demand, demand
		tight.Bound = frac(plus(rat(demand.Bound), new(big.Rat).Neg(rat(least))))
		broken.Bound = frac(plus(rat(tight.Bound), big.NewRat(-1, 1000)))
		if exact.Check([]api.Row{tight, broken}) == api.OK {
			equal(t, "as much less", isImplied(t, g, tight), true)
			equal(t, "more than that less", isImplied(t, g, broken), false)
		}
		equal(t, "implied", isImplied(t, g, demand), rat(least).Sign() >= 0)
		count[fmt.Sprint(rat(least).Sign())]++
		more, e := ground.Add(g, randomSaying(r, g, "more"))
		equal(t, "Add", e, api.OK)
		then, _, e := stages.Slack(more, demand)
		switch {
		case isClash(t, more):
			equal(t, "no model any more", e, api.ErrClash)
		case rat(then).Cmp(rat(least)) < 0:
			t.Fatal("less:", said(more), said(demand))
		case rat(then).Cmp(rat(least)) > 0:
			count["more"]++
		}
	}
	for _, what := range []string{"no model", "-1", "0", "1", "more"} {
		if count[what] < 3 {
			t.Error("too few:", what, count)
		}
	}
}
