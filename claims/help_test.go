package claims_test

import (
	"fmt"
	"math/big"
	"math/rand"
	"reflect"
	"slices"
	"strings"
	"testing"

	"underpin/api"
	"underpin/claims"
)

// equal fails unless both are equal (nil and empty lists are).
func equal(t testing.TB, what string, got, want any) {
	t.Helper()
	g, w := reflect.ValueOf(got), reflect.ValueOf(want)
	if g.Kind() == reflect.Slice && w.Kind() == reflect.Slice && g.Len() == 0 && w.Len() == 0 {
		return
	}
	if !reflect.DeepEqual(got, want) {
		t.Fatalf("%s: got %.3000s, want %.3000s", what, fmt.Sprint(got), fmt.Sprint(want))
	}
}

// said writes anything: nil and empty lists alike.
func said(l ...any) string {
	return fmt.Sprintf("%q", fmt.Sprintf("%v", l))
}

// alone fails if there is a result beside an error.
func alone(t testing.TB, what string, e api.Errno, results ...any) {
	t.Helper()
	for _, result := range results {
		if v := reflect.ValueOf(result); e != api.OK && !v.IsZero() && !(v.Kind() == reflect.Slice && v.Len() == 0) {
			t.Fatal(what, "has a result beside the error", e, result)
		}
	}
}

// num is a number, do a call, ask a question.
func num(n int64) api.Expr { return api.Expr{Kind: api.ExNumber, Number: n} }

func do(name string, args ...api.Expr) api.Expr {
	return api.Expr{Kind: api.ExCall, Name: name, Args: args}
}

func ask(name string, words ...string) api.Expr {
	return api.Expr{Kind: api.ExAsk, Name: name, Words: words}
}

// form is the formula of a text.
func form(t testing.TB, text string) api.Expr {
	t.Helper()
	x, at, e := claims.Parse(text)
	if e != api.OK || at != 0 {
		t.Fatalf("Parse(%q): %d at %d", text, e, at)
	}
	return x
}

// facts are the facts of a text with blanks ahead of lines.
func facts(t testing.TB, text string) []api.Fact {
	t.Helper()
	var lines string
	for line := range strings.Lines(text) {
		if line = strings.TrimSpace(line); line != "" {
			lines += line + "\n"
		}
	}
	l, line, e := claims.Read(lines)
	if e != api.OK {
		t.Fatal("Read:", line, e, lines)
	}
	return l
}

// exampleContract is the contract of the chapter.
func exampleContract() api.Contract {
	met := ask("sum", "met", "clay")
	return api.Contract{
		Bases:  []api.Base{{Name: "clay", Number: 10}},
		Prices: []api.Base{{Name: "clay", Number: 3}},
		Clauses: []api.Clause{{
			Name: "ground", Notice: 60, Share: 50, Cap: 1000,
			When: do("<", ask("base", "clay"), met),
			Pay:  do("*", ask("price", "clay"), do("-", met, ask("base", "clay"))),
		}},
	}
}

// exampleRecord is the record of the chapter.
func exampleRecord() []api.Fact {
	return []api.Fact{
		{Time: 5, Kind: "met", Item: "clay", By: "ann", Number: 8},
		{Time: 9, Kind: "met", Item: "clay", By: "ann", Number: 8},
		{Time: 30, Kind: "notice", Item: "ground", By: "ann", Number: 0},
	}
}

// all are the numbers from 0 to n - 1.
func all(n int) []int {
	var out []int
	for i := range n {
		out = append(out, i)
	}
	return out
}

// held keeps a number between the bounds of what is reckoned.
func held(n *big.Int) *big.Int {
	bound := big.NewInt(api.MaxReckon)
	if n.CmpAbs(bound) <= 0 {
		return n
	}
	if n.Sign() < 0 {
		return bound.Neg(bound)
	}
	return bound
}

// is is the number of a truth.
func is(yes bool) *big.Int {
	if yes {
		return big.NewInt(1)
	}
	return new(big.Int)
}

// reckon reckons a formula at a time by the chapter's words, in whole numbers of any size.
func reckon(c api.Contract, l []api.Fact, now int, x api.Expr) *big.Int {
	if x.Kind == api.ExNumber {
		return big.NewInt(x.Number)
	}
	if x.Kind == api.ExAsk {
		return answer(c, l, now, x.Name, x.Words)
	}
	var a []*big.Int
	for _, arg := range x.Args {
		a = append(a, reckon(c, l, now, arg))
	}
	out := new(big.Int).Set(a[0])
	switch x.Name {
	case "/":
		if a[1].Sign() == 0 {
			return new(big.Int)
		}
		q, m := new(big.Int).DivMod(a[0], a[1], new(big.Int))
		if m.Sign() != 0 && a[1].Sign() < 0 { // DivMod rounds so that the rest is above 0
			q.Sub(q, big.NewInt(1))
		}
		return q
	case "<":
		return is(a[0].Cmp(a[1]) < 0)
	case "<=":
		return is(a[0].Cmp(a[1]) <= 0)
	case "=":
		return is(a[0].Cmp(a[1]) == 0)
	case "not":
		return is(a[0].Sign() == 0)
	case "if":
		if a[0].Sign() != 0 {
			return a[1]
		}
		return a[2]
	}
	for _, b := range a[1:] {
		switch x.Name {
		case "+":
			out = held(out.Add(out, b))
		case "-":
			out = held(out.Sub(out, b))
		case "*":
			out = held(out.Mul(out, b))
		case "min":
			if b.Cmp(out) < 0 {
				out = b
			}
		case "max":
			if b.Cmp(out) > 0 {
				out = b
			}
		case "and":
			out = is(out.Sign() != 0 && b.Sign() != 0)
		case "or":
			out = is(out.Sign() != 0 || b.Sign() != 0)
		}
	}
	return out
}

// answer answers a question.
func answer(c api.Contract, l []api.Fact, now int, name string, words []string) *big.Int {
	switch name {
	case "now":
		return big.NewInt(int64(now))
	case "base", "price":
		for _, b := range map[string][]api.Base{"base": c.Bases, "price": c.Prices}[name] {
			if b.Name == words[0] {
				return big.NewInt(b.Number)
			}
		}
	}
	var about []api.Fact
	for _, f := range l {
		if f.Time <= now && len(words) == 2 && f.Kind == words[0] && f.Item == words[1] {
			about = append(about, f)
		}
	}
	switch {
	case name == "sum":
		total := new(big.Int)
		for _, f := range about {
			total = held(total.Add(total, big.NewInt(f.Number)))
		}
		return total
	case name == "count":
		return big.NewInt(int64(len(about)))
	case name == "first" && len(about) > 0:
		return big.NewInt(int64(about[0].Time))
	case name == "last" && len(about) > 0:
		return big.NewInt(int64(about[len(about)-1].Time))
	case name == "latest" && len(about) > 0:
		return big.NewInt(about[len(about)-1].Number)
	case name == "latest":
		return new(big.Int)
	}
	return big.NewInt(-1)
}

// claimBy is the claim of a clause by the chapter's words: each time up to now is looked at.
func claimBy(c api.Contract, l []api.Fact, now int, x api.Clause) api.Claim {
	claim := api.Claim{Since: -1}
	for t := 0; t <= now && claim.Since < 0; t++ {
		if reckon(c, l, t, x.When).Sign() != 0 {
			claim.Since = t
		}
	}
	noticed := false
	for i, f := range l {
		if f.Time > now {
			continue
		}
		if f.Kind == "notice" && f.Item == x.Name {
			noticed = noticed || claim.Since >= 0 && f.Time >= claim.Since && f.Time <= claim.Since+x.Notice
			claim.Facts = append(claim.Facts, i)
		} else if asksFor(x.When, f) || asksFor(x.Pay, f) {
			claim.Facts = append(claim.Facts, i)
		}
	}
	if claim.Since < 0 {
		return claim
	}
	amount := reckon(c, l, now, x.Pay)
	claim.Amount = amount.Int64()
	switch {
	case x.Notice == 0 || noticed:
		claim.State = api.ClDue
		pay := new(big.Int).Mul(amount, big.NewInt(int64(x.Share)))
		pay.Div(pay, big.NewInt(100))
		claim.Pay = min(max(pay.Int64(), 0), x.Cap)
	case now <= claim.Since+x.Notice:
		claim.State = api.ClOpen
	default:
		claim.State = api.ClBarred
	}
	return claim
}

// asksFor tells whether a formula asks for a fact.
func asksFor(x api.Expr, f api.Fact) bool {
	if x.Kind == api.ExAsk && slices.Contains([]string{"sum", "count", "first", "last", "latest"}, x.Name) {
		return slices.Equal(x.Words, []string{f.Kind, f.Item})
	}
	return slices.ContainsFunc(x.Args, func(arg api.Expr) bool { return asksFor(arg, f) })
}

// put puts a fact into a record, as the chapter says.
func put(l []api.Fact, f api.Fact) []api.Fact {
	at := 0
	for i, other := range l {
		if other.Time <= f.Time {
			at = i + 1
		}
	}
	return slices.Insert(slices.Clone(l), at, f)
}

// kinds, items and people that random records speak of.
var (
	kinds = []string{"met", "dug", "notice"}
	items = []string{"clay", "ground", "x-1"}
)

// randomRecord makes a record of at most so many facts up to a time.
func randomRecord(r *rand.Rand, most, last int) []api.Fact {
	var l []api.Fact
	for range r.Intn(most + 1) {
		l = append(l, randomFact(r, last))
	}
	slices.SortStableFunc(l, func(a, b api.Fact) int { return a.Time - b.Time })
	return l
}

// randomFact makes a fact.
func randomFact(r *rand.Rand, last int) api.Fact {
	f := api.Fact{Time: r.Intn(last + 1), Kind: pick(r, kinds), Item: pick(r, items), By: pick(r, []string{"ann", "bob"})}
	f.Number = int64(r.Intn(9) - 2)
	if r.Intn(30) == 0 {
		f.Number = r.Int63n(2*api.MaxAmount+1) - api.MaxAmount
	}
	return f
}

// pick picks one.
func pick[T any](r *rand.Rand, l []T) T {
	return l[r.Intn(len(l))]
}

// randomNumber makes a formula that is a number, of a depth of at most so much.
func randomNumber(r *rand.Rand, c api.Contract, depth int) api.Expr {
	if depth <= 1 || r.Intn(4) == 0 {
		return randomEnd(r, c)
	}
	if r.Intn(6) == 0 {
		return do("if", randomTruth(r, c, depth-1), randomNumber(r, c, depth-1), randomNumber(r, c, depth-1))
	}
	x := do(pick(r, []string{"+", "-", "*", "min", "max", "/", "-"}), randomNumber(r, c, depth-1), randomNumber(r, c, depth-1))
	for x.Name != "/" && r.Intn(3) == 0 {
		x.Args = append(x.Args, randomNumber(r, c, depth-1))
	}
	return x
}

// randomEnd makes a number or a question.
func randomEnd(r *rand.Rand, c api.Contract) api.Expr {
	switch r.Intn(12) {
	case 0, 1, 2:
		return num(int64(r.Intn(12) - 3))
	case 3:
		return num(r.Int63n(2*api.MaxAmount+1) - api.MaxAmount)
	case 4:
		return ask("now")
	case 5:
		if len(c.Bases) > 0 {
			return ask("base", pick(r, c.Bases).Name)
		}
	case 6:
		if len(c.Prices) > 0 {
			return ask("price", pick(r, c.Prices).Name)
		}
	}
	return ask(pick(r, []string{"sum", "sum", "count", "first", "last", "latest"}), pick(r, kinds), pick(r, items))
}

// randomTruth makes a formula that is a truth, of a depth of at most so much (and of 2 at least).
func randomTruth(r *rand.Rand, c api.Contract, depth int) api.Expr {
	if depth <= 2 || r.Intn(2) == 0 {
		return do(pick(r, []string{"<", "<=", "="}), randomNumber(r, c, depth-1), randomNumber(r, c, depth-1))
	}
	if r.Intn(3) == 0 {
		return do("not", randomTruth(r, c, depth-1))
	}
	x := do(pick(r, []string{"and", "or"}), randomTruth(r, c, depth-1), randomTruth(r, c, depth-1))
	for r.Intn(3) == 0 {
		x.Args = append(x.Args, randomTruth(r, c, depth-1))
	}
	return x
}

// randomContract makes a contract of one to three clauses.
func randomContract(r *rand.Rand) api.Contract {
	var c api.Contract
	for i := range r.Intn(3) {
		c.Bases = append(c.Bases, api.Base{Name: fmt.Sprint("b", i), Number: int64(r.Intn(12) - 2)})
	}
	for i := range r.Intn(3) {
		c.Prices = append(c.Prices, api.Base{Name: fmt.Sprint("b", i), Number: int64(r.Intn(1200) - 2)})
	}
	for _, i := range r.Perm(3)[:1+r.Intn(3)] {
		x := api.Clause{Name: items[i], Notice: r.Intn(3) * r.Intn(20), Share: r.Intn(101), Cap: int64(r.Intn(3000))}
		if r.Intn(3) == 0 {
			x.Cap = r.Int63n(api.MaxAmount + 1)
		}
		x.When, x.Pay = randomTruth(r, c, 3), randomNumber(r, c, 4)
		c.Clauses = append(c.Clauses, x)
	}
	return c
}
