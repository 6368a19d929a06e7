package stages_test

import (
	"fmt"
	"math/big"
	"math/rand"
	"reflect"
	"slices"
	"strings"
	"testing"

	"underpin/api"
	"underpin/exact"
	"underpin/ground"
	"underpin/stages"
)

// exampleGround is the ground of the chapters 2 and 6.
func exampleGround() api.Ground {
	return api.Ground{
		Stations: []int{0, 10},
		Depth:    "20",
		Layers:   []string{"fill", "clay", "rock"},
		Traits:   []api.Trait{{Name: "cohesion", Low: "0", High: "50"}},
		Sayings: []api.Saying{
			{Name: "bh", Kind: api.SaTop, X: 0, Layer: 1, Low: "3", High: "4"},
			{Name: "cs", Kind: api.SaTrait, Trait: "cohesion", Layer: 1, Low: "10", High: "30"},
		},
	}
}

// examplePlan is the plan of the chapter.
func examplePlan() api.Excavation {
	return api.Excavation{
		Supports: []string{"wall"},
		Stages: []api.Stage{
			{Name: "pit", Sets: []int{0}, Demands: []api.Row{row("1 b-1-0 <= 5")}},
			{Name: "floor", After: []int{0}, Rests: []int{0}, Takes: []int{0}, Demands: []api.Row{row("1 b-1-0 <= 4")}},
		},
	}
}

// plan is a plan of stages without demands.
func plan(supports int, l ...api.Stage) api.Excavation {
	p := api.Excavation{Stages: l}
	for k := range supports {
		p.Supports = append(p.Supports, fmt.Sprintf("s%d", k))
	}
	for i := range p.Stages {
		p.Stages[i].Name = fmt.Sprintf("stage-%d", i)
	}
	return p
}

// flat is a ground of one layer, of which nothing is unknown.
func flat() api.Ground {
	return api.Ground{Stations: []int{0}, Depth: "1", Layers: []string{"rock"}}
}

// row returns the row that a line says.
func row(line string) api.Row {
	l, _, e := exact.Parse(line + "\n")
	if e != api.OK {
		panic(line)
	}
	return l[0]
}

// weights are the words of a text.
func weights(text string) []api.Frac {
	var l []api.Frac
	for _, word := range strings.Fields(text) {
		l = append(l, api.Frac(word))
	}
	return l
}

// seen is a statement of the top of the layer 1 at 0.
func seen(name string, low, high api.Frac) api.Saying {
	return api.Saying{Name: name, Kind: api.SaTop, X: 0, Layer: 1, Low: low, High: high}
}

// Deeds.
func observe(s api.Saying) api.Deed    { return api.Deed{Kind: api.DeObserve, Saying: s} }
func retract(name string) api.Deed     { return api.Deed{Kind: api.DeRetract, Name: name} }
func verify(stage int) api.Deed        { return api.Deed{Kind: api.DeVerify, Stage: stage} }
func begin(stage int) api.Deed         { return api.Deed{Kind: api.DeBegin, Stage: stage} }
func done(stage int) api.Deed          { return api.Deed{Kind: api.DeDone, Stage: stage} }
func whole(stage int) []api.Deed       { return []api.Deed{verify(stage), begin(stage), done(stage)} }
func deeds(l ...[]api.Deed) []api.Deed { return slices.Concat(l...) }

func prove(stage int, proofs ...[]api.Frac) api.Deed {
	return api.Deed{Kind: api.DeProve, Stage: stage, Proofs: proofs}
}

// mustNew returns a new dig.
func mustNew(t testing.TB, g api.Ground, p api.Excavation) api.Dig {
	t.Helper()
	d, e := stages.New(g, p)
	if e != api.OK {
		t.Fatal("New:", e, said(g, p))
	}
	return d
}

// mustRun returns a dig after deeds.
func mustRun(t testing.TB, d api.Dig, l ...api.Deed) api.Dig {
	t.Helper()
	out, at, e := stages.Run(d, l)
	if e != api.OK || at != len(l) {
		t.Fatal("Run:", at, e, said(d))
	}
	return out
}

// mustRows returns the rows of a ground.
func mustRows(t testing.TB, g api.Ground) []api.Row {
	t.Helper()
	l, e := ground.Rows(g)
	if e != api.OK {
		t.Fatal("Rows:", e, said(g))
	}
	return l
}

// fails checks that a deed has an error, and no dig beside it.
func fails(t testing.TB, what string, d api.Dig, x api.Deed, want api.Errno) {
	t.Helper()
	out, e := stages.Apply(d, x)
	equal(t, what, e, want)
	alone(t, what, e, out)
}

// equal fails unless both are equal (nil and empty lists are).
func equal(t testing.TB, what string, got, want any) {
	t.Helper()
	g, w := reflect.ValueOf(got), reflect.ValueOf(want)
	if g.Kind() == reflect.Slice && g.Len() == 0 && w.Len() == 0 {
		return
	}
	if !reflect.DeepEqual(got, want) {
		t.Fatalf("%s: got %.3000s, want %.3000s", what, fmt.Sprint(got), fmt.Sprint(want))
	}
}

// said writes anything: nil and empty lists alike.
func said(l ...any) string {
	return fmt.Sprintf("%q", fmt.Sprint(l...))
}

// alone fails if there is a result beside an error.
func alone(t testing.TB, what string, e api.Errno, results ...any) {
	t.Helper()
	for _, result := range results {
		if e != api.OK && !reflect.ValueOf(result).IsZero() {
			t.Fatal(what, "has a result beside the error", e, result)
		}
	}
}

// most is a number of MaxDigits digits.
var most = strings.Repeat("9", api.MaxDigits)

// rat returns a number as math/big has it.
func rat(a api.Frac) *big.Rat {
	x, ok := new(big.Rat).SetString(string(a))
	if !ok {
		panic("no number: " + string(a))
	}
	return x
}

// frac returns a number of math/big as text.
func frac(x *big.Rat) api.Frac {
	return api.Frac(x.RatString())
}

// plus and times reckon with numbers.
func plus(a, b *big.Rat) *big.Rat  { return new(big.Rat).Add(a, b) }
func times(a, b *big.Rat) *big.Rat { return new(big.Rat).Mul(a, b) }

// summed returns the sum of rows by weights; false if they are no weights for them.
func summed(rows []api.Row, weights []api.Frac) (map[string]*big.Rat, *big.Rat, bool) {
	if len(rows) != len(weights) {
		return nil, nil, false
	}
	coefs, bound := map[string]*big.Rat{}, new(big.Rat)
	for i, w := range weights {
		if !exact.Valid(w) || rat(w).Sign() < 0 {
			return nil, nil, false
		}
		bound = plus(bound, times(rat(w), rat(rows[i].Bound)))
		for _, term := range rows[i].Terms {
			if coefs[term.Name] == nil {
				coefs[term.Name] = new(big.Rat)
			}
			coefs[term.Name] = plus(coefs[term.Name], times(rat(w), rat(term.Coef)))
		}
	}
	for name, coef := range coefs {
		if coef.Sign() == 0 {
			delete(coefs, name)
		}
	}
	return coefs, bound, true
}

// holds tells whether a proof of a demand holds, by the words of the chapter 1.
func holds(rows []api.Row, demand api.Row, weights []api.Frac) bool {
	coefs, bound, are := summed(rows, weights)
	if !are {
		return false
	}
	if len(coefs) == 0 && bound.Sign() < 0 {
		return true
	}
	for _, term := range demand.Terms {
		if coef := coefs[term.Name]; coef == nil || coef.Cmp(rat(term.Coef)) != 0 {
			return false
		}
	}
	return len(coefs) == len(demand.Terms) && bound.Cmp(rat(demand.Bound)) <= 0
}

// allHold tells whether there is a proof that holds for each demand.
func allHold(rows, demands []api.Row, proofs [][]api.Frac) bool {
	if len(proofs) != len(demands) {
		return false
	}
	for i, demand := range demands {
		if !holds(rows, demand, proofs[i]) {
			return false
		}
	}
	return true
}

// keeps tells whether a model keeps a row, by the words of the chapter 1.
func keeps(row api.Row, model []api.Value) bool {
	sum := new(big.Rat)
	for _, term := range row.Terms {
		for _, v := range model {
			if v.Name == term.Name {
				sum = plus(sum, times(rat(term.Coef), rat(v.Value)))
			}
		}
	}
	return sum.Cmp(rat(row.Bound)) <= 0
}

// isClash tells whether a ground allows no model.
func isClash(t testing.TB, g api.Ground) bool {
	t.Helper()
	yes, _, _, e := exact.Empty(mustRows(t, g))
	equal(t, "Empty", e, api.OK)
	return yes
}

// isImplied tells whether the rows of a ground imply a row.
func isImplied(t testing.TB, g api.Ground, demand api.Row) bool {
	t.Helper()
	yes, _, _, e := exact.Implied(mustRows(t, g), demand)
	equal(t, "Implied", e, api.OK)
	return yes
}

// checkedByWords returns the error of a dig whose plan has none, by the words of the chapter.
func checkedByWords(t testing.TB, d api.Dig) api.Errno {
	t.Helper()
	if len(d.Marks) != len(d.Plan.Stages) || len(d.Standing) != len(d.Plan.Supports) {
		return api.ErrArg
	}
	rows := mustRows(t, d.Ground)
	for i, m := range d.Marks {
		waiting, verified := m.State == api.SgWaiting, m.State == api.SgVerified
		begun, isDone := m.State == api.SgBegun, m.State == api.SgDone
		if !waiting && !verified && !begun && !isDone {
			return api.ErrArg
		}
		if m.Shaken && !begun && !isDone {
			return api.ErrArg
		}
		if (waiting || m.Shaken) && len(m.Proofs) > 0 {
			return api.ErrArg
		}
		for _, k := range d.Plan.Stages[i].After {
			if (begun || isDone) && d.Marks[k].State != api.SgDone {
				return api.ErrState
			}
		}
		if !waiting && !m.Shaken && !allHold(rows, d.Plan.Stages[i].Demands, m.Proofs) {
			return api.ErrSum
		}
	}
	return api.OK
}

// has tells whether a number stands in a list.
func has(l []int, k int) bool { return slices.Contains(l, k) }

// begunByWords returns the error of DeBegin, by the words of the chapter.
func begunByWords(t testing.TB, d api.Dig, i int) api.Errno {
	t.Helper()
	if i < 0 || i >= len(d.Plan.Stages) {
		return api.ErrNone
	}
	if d.Marks[i].State != api.SgVerified {
		return api.ErrState
	}
	if isClash(t, d.Ground) {
		return api.ErrClash
	}
	for _, m := range d.Marks {
		if m.Shaken {
			return api.ErrScope
		}
	}
	own := d.Plan.Stages[i]
	for _, k := range own.After {
		if d.Marks[k].State != api.SgDone {
			return api.ErrLoop
		}
	}
	for k := range d.Plan.Supports {
		for j, other := range d.Plan.Stages {
			against := has(own.Takes, k) && has(other.Rests, k) || has(other.Takes, k) && has(own.Rests, k)
			if j != i && d.Marks[j].State == api.SgBegun && against {
				return api.ErrTwice
			}
		}
	}
	for k, stands := range d.Standing {
		if !stands && (has(own.Rests, k) || has(own.Takes, k)) {
			return api.ErrArg
		}
	}
	return api.OK
}

// provedByWords returns the error that DeVerify and DeProve have ahead of any proof.
func provedByWords(t testing.TB, d api.Dig, i int) api.Errno {
	t.Helper()
	switch {
	case i < 0 || i >= len(d.Plan.Stages):
		return api.ErrNone
	case d.Marks[i].State != api.SgWaiting && !d.Marks[i].Shaken:
		return api.ErrState
	case isClash(t, d.Ground):
		return api.ErrClash
	}
	return api.OK
}

// rowsOf is how many rows a statement has.
func rowsOf(s api.Saying) int {
	if s.Kind == api.SaRow {
		return 1
	}
	return 2
}

// appliedByWords returns the dig after a deed, or the deed's error, by the words of the chapter; the proofs that DeVerify
// finds are those that were found.
func appliedByWords(t testing.TB, d api.Dig, x api.Deed, found [][]api.Frac) (api.Dig, api.Errno) {
	t.Helper()
	d = copied(d)
	i := x.Stage
	switch x.Kind {
	case api.DeObserve:
		d.Ground.Sayings = append(d.Ground.Sayings, x.Saying)
		if e := ground.Check(d.Ground); e != api.OK {
			return api.Dig{}, e
		}
		for _, m := range d.Marks {
			for k := range m.Proofs {
				for range rowsOf(x.Saying) {
					m.Proofs[k] = append(m.Proofs[k], "0")
				}
			}
		}
		return d, api.OK
	case api.DeRetract:
		return retractedByWords(t, d, x.Name)
	case api.DeVerify, api.DeProve:
		if e := provedByWords(t, d, i); e != api.OK {
			return api.Dig{}, e
		}
		demands := d.Plan.Stages[i].Demands
		if x.Kind == api.DeProve {
			found = x.Proofs
			if !allHold(mustRows(t, d.Ground), demands, found) {
				return api.Dig{}, api.ErrSum
			}
		}
		for _, demand := range demands {
			if !isImplied(t, d.Ground, demand) {
				return api.Dig{}, api.ErrSum
			}
		}
		equal(t, "the proofs hold", allHold(mustRows(t, d.Ground), demands, found), true)
		d.Marks[i].Shaken, d.Marks[i].Proofs = false, found
		d.Marks[i].State = max(d.Marks[i].State, api.SgVerified)
		return d, api.OK
	case api.DeBegin:
		if e := begunByWords(t, d, i); e != api.OK {
			return api.Dig{}, e
		}
		d.Marks[i].State = api.SgBegun
		for _, k := range d.Plan.Stages[i].Takes {
			d.Standing[k] = false
		}
		return d, api.OK
	case api.DeDone:
		if i < 0 || i >= len(d.Plan.Stages) {
			return api.Dig{}, api.ErrNone
		}
		if d.Marks[i].State != api.SgBegun {
			return api.Dig{}, api.ErrState
		}
		d.Marks[i].State = api.SgDone
		for _, k := range d.Plan.Stages[i].Sets {
			d.Standing[k] = true
		}
		return d, api.OK
	}
	return api.Dig{}, api.ErrArg
}

// retractedByWords is DeRetract, by the words of the chapter.
func retractedByWords(t testing.TB, d api.Dig, name string) (api.Dig, api.Errno) {
	t.Helper()
	n := slices.IndexFunc(d.Ground.Sayings, func(s api.Saying) bool { return s.Name == name })
	if n < 0 {
		return api.Dig{}, api.ErrNone
	}
	to := len(mustRows(t, d.Ground))
	for _, s := range d.Ground.Sayings[n+1:] {
		to -= rowsOf(s)
	}
	from := to - rowsOf(d.Ground.Sayings[n])
	for i := range d.Marks {
		m := &d.Marks[i]
		rested := false
		for k, weights := range m.Proofs {
			for _, w := range weights[from:to] {
				rested = rested || rat(w).Sign() != 0
			}
			m.Proofs[k] = slices.Concat(weights[:from], weights[to:])
		}
		if rested {
			m.Proofs = nil
			m.Shaken = m.State != api.SgVerified
			if m.State == api.SgVerified {
				m.State = api.SgWaiting
			}
		}
	}
	d.Ground.Sayings = slices.Delete(d.Ground.Sayings, n, n+1)
	return d, api.OK
}

// copied is a dig of which all lists are its own.
func copied(d api.Dig) api.Dig {
	d.Ground.Stations, d.Ground.Layers = slices.Clone(d.Ground.Stations), slices.Clone(d.Ground.Layers)
	d.Ground.Traits, d.Ground.Sayings = slices.Clone(d.Ground.Traits), slices.Clone(d.Ground.Sayings)
	for i, s := range d.Ground.Sayings {
		d.Ground.Sayings[i].Row.Terms = slices.Clone(s.Row.Terms)
	}
	d.Plan = copiedPlan(d.Plan)
	d.Marks, d.Standing = slices.Clone(d.Marks), slices.Clone(d.Standing)
	for i, m := range d.Marks {
		d.Marks[i].Proofs = nil
		for _, weights := range m.Proofs {
			d.Marks[i].Proofs = append(d.Marks[i].Proofs, slices.Clone(weights))
		}
	}
	return d
}

// copiedPlan is a plan of which all lists are its own.
func copiedPlan(p api.Excavation) api.Excavation {
	p.Supports, p.Stages = slices.Clone(p.Supports), slices.Clone(p.Stages)
	for i := range p.Stages {
		s := &p.Stages[i]
		s.After, s.Rests, s.Takes, s.Sets = slices.Clone(s.After), slices.Clone(s.Rests), slices.Clone(s.Takes), slices.Clone(s.Sets)
		s.Demands = slices.Clone(s.Demands)
		for k, demand := range s.Demands {
			s.Demands[k].Terms = slices.Clone(demand.Terms)
		}
	}
	return p
}

// randomGround makes a ground with up to n statements, most of which agree with each other.
func randomGround(r *rand.Rand, n int) api.Ground {
	g := api.Ground{Stations: []int{0, 8, 12}[:1+r.Intn(3)], Depth: "20", Layers: []string{"fill", "clay", "rock"}[:2+r.Intn(2)]}
	if r.Intn(2) == 0 {
		g.Traits = []api.Trait{{Name: "c", Low: "0", High: "9"}}
	}
	for i := range r.Intn(n + 1) {
		g.Sayings = append(g.Sayings, randomSaying(r, g, fmt.Sprintf("g%d", i)))
	}
	return g
}

// randomSaying makes a statement: most of them agree with the model in which the top of the layer k is at 4 k + 3, and
// all traits are 4.
func randomSaying(r *rand.Rand, g api.Ground, name string) api.Saying {
	around := func(x int) (api.Frac, api.Frac) {
		if r.Intn(8) == 0 {
			x += r.Intn(12) - 4
		}
		return frac(big.NewRat(int64(2*x-r.Intn(6)), 2)), frac(big.NewRat(int64(3*x+r.Intn(8)), 3))
	}
	s := api.Saying{Name: name, Kind: api.SayingKind(1 + r.Intn(3))}
	switch {
	case s.Kind == api.SaTrait && len(g.Traits) > 0:
		s.Trait, s.Layer = "c", r.Intn(len(g.Layers))
		s.Low, s.High = around(4)
	case s.Kind == api.SaRow:
		s.Row = randomRow(r, g)
		sum := new(big.Rat)
		for _, term := range s.Row.Terms {
			sum = plus(sum, times(rat(term.Coef), standard(term.Name)))
		}
		s.Row.Bound = frac(plus(sum, big.NewRat(int64(r.Intn(6)), 1)))
	default:
		s.Kind, s.X, s.Layer = api.SaTop, r.Intn(g.Stations[len(g.Stations)-1]+1), 1+r.Intn(len(g.Layers)-1)
		s.Low, s.High = around(4*s.Layer + 3)
	}
	return s
}

// standard is the value of an unknown in the model with which most statements agree.
func standard(name string) *big.Rat {
	if name[0] == 't' {
		return rat("4")
	}
	return rat(api.Frac(map[byte]string{'1': "7", '2': "11"}[name[2]]))
}

// randomRow makes a row in unknowns of a ground, with the Bound 0.
func randomRow(r *rand.Rand, g api.Ground) api.Row {
	names, _ := ground.Unknowns(g)
	row := api.Row{Bound: "0"}
	for _, name := range names {
		if c := int64(r.Intn(5) - 2); c != 0 && r.Intn(2) == 0 {
			row.Terms = append(row.Terms, api.Term{Name: name, Coef: frac(big.NewRat(c, int64(1+r.Intn(2))))})
		}
	}
	return row
}

// randomDemand makes a demand: most of them hold for all models, and some of these no more if one thing less is known.
func randomDemand(r *rand.Rand, g api.Ground) api.Row {
	row := randomRow(r, g)
	a, _ := ground.Most(g, row.Terms)
	if a.Kind == api.AnBest {
		row.Bound = frac(plus(rat(a.Value), big.NewRat(int64(r.Intn(5)-1), 2)))
	}
	if len(row.Bound) > 8 {
		row.Bound = "40"
	}
	return row
}

// randomNumbers makes a list of different numbers less than n.
func randomNumbers(r *rand.Rand, n, often int) []int {
	var l []int
	for k := range n {
		if r.Intn(often) == 0 {
			l = append(l, k)
		}
	}
	r.Shuffle(len(l), func(i, j int) { l[i], l[j] = l[j], l[i] })
	return l
}

// randomPlan makes a plan of up to n stages on a ground.
func randomPlan(r *rand.Rand, g api.Ground, n int) api.Excavation {
	p := plan(r.Intn(4), make([]api.Stage, r.Intn(n+1))...)
	for i := range p.Stages {
		s := &p.Stages[i]
		s.After = randomNumbers(r, i, 3)
		s.Rests, s.Takes, s.Sets = randomNumbers(r, len(p.Supports), 3), randomNumbers(r, len(p.Supports), 4), randomNumbers(r, len(p.Supports), 3)
		if i == 0 && r.Intn(4) > 0 {
			s.Rests, s.Takes, s.Sets = nil, nil, randomNumbers(r, len(p.Supports), 1)
		}
		for range r.Intn(3) {
			s.Demands = append(s.Demands, randomDemand(r, g))
		}
	}
	return p
}

// randomDeed makes a deed: most of them may be done.
func randomDeed(r *rand.Rand, d api.Dig, number int) api.Deed {
	x := api.Deed{Kind: api.DeedKind(1 + r.Intn(6)), Stage: r.Intn(max(1, len(d.Plan.Stages))), Name: "none"}
	if r.Intn(12) == 0 {
		x.Stage = []int{-1, len(d.Plan.Stages), -1 << 63, 1<<63 - 1}[r.Intn(4)]
	}
	if n := len(d.Ground.Sayings); n > 0 && r.Intn(8) > 0 {
		x.Name = d.Ground.Sayings[r.Intn(n)].Name
	}
	switch x.Kind {
	case api.DeObserve:
		x.Saying = randomSaying(r, d.Ground, fmt.Sprintf("d%d", number))
		if r.Intn(8) == 0 {
			x.Saying.Name = x.Name
		}
	case api.DeProve:
		x.Proofs = randomProofs(r, d, x.Stage)
	}
	return x
}

// someDeed makes a deed: most of them lead a stage on.
func someDeed(r *rand.Rand, d api.Dig, number int) api.Deed {
	if len(d.Marks) == 0 || r.Intn(3) == 0 {
		return randomDeed(r, d, number)
	}
	stage := r.Intn(len(d.Marks))
	m := d.Marks[stage]
	switch {
	case m.State == api.SgWaiting || m.Shaken:
		return verify(stage)
	case m.State == api.SgVerified:
		return begin(stage)
	}
	return done(stage)
}

// randomProofs makes proofs for a stage: most of them hold, if its demands are implied.
func randomProofs(r *rand.Rand, d api.Dig, stage int) [][]api.Frac {
	if stage < 0 || stage >= len(d.Plan.Stages) {
		return nil
	}
	rows, _ := ground.Rows(d.Ground)
	var proofs [][]api.Frac
	for _, demand := range d.Plan.Stages[stage].Demands {
		_, weights, _, _ := exact.Implied(rows, demand)
		proofs = append(proofs, weights)
	}
	if r.Intn(3) == 0 {
		proofs = spoiled(r, proofs)
	}
	return proofs
}

// spoiled changes something of proofs, that mostly do not hold any more.
func spoiled(r *rand.Rand, proofs [][]api.Frac) [][]api.Frac {
	if len(proofs) == 0 || len(proofs[0]) == 0 {
		return append(slices.Clone(proofs), weights("0 1"))
	}
	out := slices.Clone(proofs)
	k := r.Intn(len(out))
	out[k] = slices.Clone(out[k])
	switch r.Intn(4) {
	case 0:
		return out[1:]
	case 1:
		out[k] = append(out[k], "0")
	case 2:
		out[k] = out[k][:max(0, len(out[k])-1)]
	case 3:
		if len(out[k]) > 0 {
			out[k][r.Intn(len(out[k]))] = []api.Frac{"1", "-1", "x", "1/2", "0", "2/4"}[r.Intn(6)]
		}
	}
	return out
}
