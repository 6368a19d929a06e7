package claims_test

import (
	"fmt"
	"math"
	"slices"
	"strings"
	"testing"

	"underpin/api"
	"underpin/claims"
)

// behind is a time that is none, beyond a number that is too great.
const (
	behind = api.MaxTime + 1
	beyond = api.MaxAmount + 1
)

// badNames are no names.
var badNames = []string{"", strings.Repeat("g", 17), "gAng", "G", "1g", "-g", "g\x00\xff", "g{", "`g", "g:", "g/", "g ", " g", "é", "g\n"}

// wrongFact is a change of the second fact of a record with the error that it makes. Parts are in the order of CheckRecord.
type wrongFact struct {
	part, what string
	change     func(f *api.Fact)
	want       api.Errno
}

// wrongFacts are all of them.
func wrongFacts() []wrongFact {
	l := []wrongFact{
		{"numbers", "Time below 0", func(f *api.Fact) { f.Time = -1 }, api.ErrArg},
		{"numbers", "Time behind all times", func(f *api.Fact) { f.Time = behind }, api.ErrArg},
		{"numbers", "Time as great as can be", func(f *api.Fact) { f.Time = math.MaxInt }, api.ErrArg},
		{"numbers", "Number too great", func(f *api.Fact) { f.Number = beyond }, api.ErrArg},
		{"numbers", "Number too little", func(f *api.Fact) { f.Number = -beyond }, api.ErrArg},
		{"numbers", "Number as little as can be", func(f *api.Fact) { f.Number = math.MinInt64 }, api.ErrArg},
	}
	for _, bad := range badNames {
		l = append(l,
			wrongFact{"names", fmt.Sprintf("Kind %q", bad), func(f *api.Fact) { f.Kind = bad }, api.ErrName},
			wrongFact{"names", fmt.Sprintf("Item %q", bad), func(f *api.Fact) { f.Item = bad }, api.ErrName},
			wrongFact{"names", fmt.Sprintf("By %q", bad), func(f *api.Fact) { f.By = bad }, api.ErrName})
	}
	return append(l, wrongFact{"time", "a Time ahead of the last one", func(f *api.Fact) { f.Time = 4 }, api.ErrState})
}

// recordErrors calls all functions that check a record, fails if there is a result beside an error, and returns the errors.
// Whatever they check behind the record is wrong.
func recordErrors(t *testing.T, l []api.Fact) []api.Errno {
	t.Helper()
	bad := []api.Fact{{Time: 1}}
	text, a := claims.Write(l)
	alone(t, "Write", a, text)
	seals, b := claims.Seals(l)
	alone(t, "Seals", b, seals)
	broken, c := claims.Broken(l, make([]uint64, 999))
	alone(t, "Broken", c, broken)
	both, first, second, d := claims.Agree(l, bad)
	alone(t, "Agree", d, both, first, second)
	both, first, second, e := claims.Agree(exampleRecord(), l)
	alone(t, "Agree", e, both, first, second)
	value, f := claims.Value(exampleContract(), l, -1, api.Expr{})
	alone(t, "Value", f, value)
	claim, g := claims.Clause(exampleContract(), l, -1, -1)
	alone(t, "Clause", g, claim)
	account, total, h := claims.Account(exampleContract(), l, -1)
	alone(t, "Account", h, account, total)
	low, high, i := claims.Between(exampleContract(), l, bad, -1, -1)
	alone(t, "Between", i, low, high)
	low, high, j := claims.Between(exampleContract(), exampleRecord(), l, 9, 0)
	alone(t, "Between", j, low, high)
	return []api.Errno{claims.CheckRecord(l), a, b, c, d, e, f, g, h, i, j}
}

// TestCheckRecord: P9.1, each function returns the error of its record, ahead of all others.
func TestCheckRecord(t *testing.T) {
	equal(t, "nothing", claims.CheckRecord(nil), api.OK)
	equal(t, "the example", claims.CheckRecord(exampleRecord()), api.OK)
	for _, c := range wrongFacts() {
		l := exampleRecord()
		c.change(&l[1])
		equal(t, c.what, recordErrors(t, l), slices.Repeat([]api.Errno{c.want}, 11))
	}
	equal(t, "513 facts", recordErrors(t, make([]api.Fact, 513)), slices.Repeat([]api.Errno{api.ErrLimit}, 11))
	many := slices.Repeat([]api.Fact{{Time: -1, Kind: "a", Item: "a", By: "a"}}, 513)
	equal(t, "513 facts that are wrong", claims.CheckRecord(many), api.ErrLimit)
}

// TestCheckRecordOrder: P9.1 and R1, of two errors the one named first counts, and that of the fact ahead.
func TestCheckRecordOrder(t *testing.T) {
	all := wrongFacts()
	for i, first := range all {
		for _, then := range all[i+1:] {
			if first.part == then.part {
				continue
			}
			l := exampleRecord()
			then.change(&l[1])
			first.change(&l[1])
			equal(t, first.what+" ahead of "+then.what, claims.CheckRecord(l), first.want)
		}
		l := exampleRecord()
		first.change(&l[1])
		l[2] = api.Fact{Time: -1}
		equal(t, first.what+" ahead of another fact", claims.CheckRecord(l), first.want)
	}
}

// TestCheckRecordLimits: P9.1 and R7, limits are allowed themselves.
func TestCheckRecordLimits(t *testing.T) {
	name := strings.Repeat("a", api.MaxName-2) + "-9"
	fact := api.Fact{Time: api.MaxTime, Kind: name, Item: name, By: name, Number: -api.MaxAmount}
	equal(t, "512 facts", claims.CheckRecord(slices.Repeat([]api.Fact{fact}, api.MaxFacts)), api.OK)
	fact.Number = api.MaxAmount
	early := api.Fact{Kind: "z", Item: "a", By: "m"}
	equal(t, "the least fact, and the greatest", claims.CheckRecord([]api.Fact{early, early, fact, fact}), api.OK)
	equal(t, "back in time", claims.CheckRecord([]api.Fact{early, fact, early}), api.ErrState)
	late := early
	late.Time = api.MaxTime - 1
	equal(t, "a minute back in time", claims.CheckRecord([]api.Fact{fact, late}), api.ErrState)
}

// wholeContract has all that a contract may have.
func wholeContract() api.Contract {
	c := exampleContract()
	c.Bases = append(c.Bases, api.Base{Name: "sum", Number: -5})
	c.Prices = append(c.Prices, api.Base{Name: "hour", Number: 200})
	c.Clauses = append(c.Clauses, api.Clause{
		Name: "standstill", Share: 100, Cap: 5000,
		When: do("and", do("not", do("=", ask("now"), num(0))), do("<=", num(2), ask("count", "stop", "rig"))),
		Pay:  do("+", do("*", ask("price", "hour"), ask("count", "stop", "rig")), ask("base", "sum")),
	})
	return c
}

// wrongContract is a change of that contract with the error that it makes. Parts are in the order of Check.
type wrongContract struct {
	part, what string
	change     func(c *api.Contract)
	want       api.Errno
}

// wrongBases are those of baselines and of prices.
func wrongBases() []wrongContract {
	out := []wrongContract{
		{"many", "65 baselines", func(c *api.Contract) { c.Bases = make([]api.Base, 65) }, api.ErrLimit},
		{"many", "65 prices", func(c *api.Contract) { c.Prices = make([]api.Base, 65) }, api.ErrLimit},
	}
	for part, of := range []func(c *api.Contract) []api.Base{func(c *api.Contract) []api.Base { return c.Bases }, func(c *api.Contract) []api.Base { return c.Prices }} {
		what := []string{"baseline", "price"}[part]
		for _, bad := range badNames {
			out = append(out, wrongContract{what + " name", fmt.Sprintf("%s %q", what, bad), func(c *api.Contract) { of(c)[1].Name = bad }, api.ErrName})
		}
		out = append(out, wrongContract{what + " twice", what + " twice", func(c *api.Contract) { of(c)[1].Name = "clay" }, api.ErrTwice})
		for _, n := range []int64{beyond, -beyond, math.MinInt64, math.MaxInt64} {
			out = append(out, wrongContract{what + " number", fmt.Sprint(what, n), func(c *api.Contract) { of(c)[1].Number = n }, api.ErrArg})
		}
	}
	return out
}

// noFormulas are values that Print does not accept.
func noFormulas() map[string]api.Expr {
	deep := ask("now")
	for range api.MaxNest {
		deep = do("+", deep, num(1))
	}
	return map[string]api.Expr{
		"nothing":           {},
		"too deep":          do("<", deep, num(1)),
		"a kind":            {Kind: 4, Number: 1},
		"a number":          do("<", num(beyond), num(1)),
		"types":             do("and", num(1), num(1)),
		"one argument":      do("+", num(1)),
		"a name beside":     {Kind: api.ExNumber, Name: "a"},
		"words as formulas": {Kind: api.ExCall, Name: "now"},
		"too long":          do("+", slices.Repeat([]api.Expr{num(1)}, 999)...),
	}
}

// wrongClauses are those of clauses.
func wrongClauses() []wrongContract {
	second := func(change func(x *api.Clause)) func(c *api.Contract) {
		return func(c *api.Contract) { change(&c.Clauses[1]) }
	}
	out := []wrongContract{{"clauses", "33 clauses", func(c *api.Contract) { c.Clauses = make([]api.Clause, 33) }, api.ErrLimit}}
	for _, bad := range badNames {
		out = append(out, wrongContract{"clause name", fmt.Sprintf("clause %q", bad), second(func(x *api.Clause) { x.Name = bad }), api.ErrName})
	}
	out = append(out, []wrongContract{
		{"clause twice", "clause twice", second(func(x *api.Clause) { x.Name = "ground" }), api.ErrTwice},
		{"numbers", "Notice below 0", second(func(x *api.Clause) { x.Notice = -1 }), api.ErrArg},
		{"numbers", "Notice behind all times", second(func(x *api.Clause) { x.Notice = behind }), api.ErrArg},
		{"numbers", "Share below 0", second(func(x *api.Clause) { x.Share = -1 }), api.ErrArg},
		{"numbers", "Share 101", second(func(x *api.Clause) { x.Share = 101 }), api.ErrArg},
		{"numbers", "Cap below 0", second(func(x *api.Clause) { x.Cap = -1 }), api.ErrArg},
		{"numbers", "Cap too great", second(func(x *api.Clause) { x.Cap = beyond }), api.ErrArg},
	}...)
	for what, x := range noFormulas() {
		out = append(out,
			wrongContract{"formulas", "When: " + what, second(func(c *api.Clause) { c.When = x }), api.ErrForm},
			wrongContract{"formulas", "Pay: " + what, second(func(c *api.Clause) { c.Pay = x }), api.ErrForm})
	}
	missing := do("<", ask("base", "hour"), num(1))
	return append(out, []wrongContract{
		{"types", "When a number", second(func(x *api.Clause) { x.When = num(1) }), api.ErrArg},
		{"types", "When a question", second(func(x *api.Clause) { x.When = ask("now") }), api.ErrArg},
		{"types", "When a sum", second(func(x *api.Clause) { x.When = do("+", num(1), num(1)) }), api.ErrArg},
		{"types", "Pay a truth", second(func(x *api.Clause) { x.Pay = do("<", num(1), num(1)) }), api.ErrArg},
		{"none", "no such baseline", second(func(x *api.Clause) { x.When = missing }), api.ErrNone},
		{"none", "no such baseline in Pay", second(func(x *api.Clause) { x.Pay = ask("base", "rock") }), api.ErrNone},
		{"none", "no such price", second(func(x *api.Clause) { x.When = do("<", num(0), ask("price", "sum")) }), api.ErrNone},
		{"none", "no such price, deep in Pay", second(func(x *api.Clause) { x.Pay = do("if", missing, num(1), do("max", num(2), ask("price", "rock"))) }), api.ErrNone},
	}...)
}

// wrongContracts are all of them.
func wrongContracts() []wrongContract {
	return slices.Concat(wrongBases(), wrongClauses())
}

// contractErrors calls all functions that check a contract, fails if there is a result beside an error, and returns the
// errors. Whatever they check behind the contract is wrong.
func contractErrors(t *testing.T, c api.Contract) []api.Errno {
	t.Helper()
	bad := make([]api.Fact, 513)
	text, a := claims.PrintContract(c)
	alone(t, "PrintContract", a, text)
	value, b := claims.Value(c, bad, -1, api.Expr{})
	alone(t, "Value", b, value)
	claim, d := claims.Clause(c, bad, -1, -1)
	alone(t, "Clause", d, claim)
	account, total, e := claims.Account(c, bad, -1)
	alone(t, "Account", e, account, total)
	low, high, f := claims.Between(c, bad, bad, -1, -1)
	alone(t, "Between", f, low, high)
	return []api.Errno{claims.Check(c), a, b, d, e, f}
}

// TestCheck: P9.3, each function returns the error of its contract, ahead of all others.
func TestCheck(t *testing.T) {
	equal(t, "the example", claims.Check(exampleContract()), api.OK)
	equal(t, "the whole one", claims.Check(wholeContract()), api.OK)
	equal(t, "nothing", claims.Check(api.Contract{}), api.OK)
	for _, x := range wrongContracts() {
		c := wholeContract()
		x.change(&c)
		equal(t, x.part+": "+x.what, contractErrors(t, c), slices.Repeat([]api.Errno{x.want}, 6))
	}
}

// TestCheckOrder: P9.3 and R1, of the errors in two parts the first one counts.
func TestCheckOrder(t *testing.T) {
	all := wrongContracts()
	tried := 0
	for i, first := range all {
		for _, then := range all[i+1:] {
			if first.part == then.part {
				continue
			}
			c := wholeContract()
			then.change(&c)
			want := first.want
			if first.change(&c); first.part == "types" && then.part == "none" && claims.Check(c) != want {
				continue // it stands in place of what asks for it
			}
			tried++
			equal(t, first.what+" ahead of "+then.what, claims.Check(c), want)
		}
	}
	if tried < 1000 {
		t.Error("too few:", tried)
	}
}

// TestCheckElements: P9.3 and R1, of the errors in two elements that of the first one counts.
func TestCheckElements(t *testing.T) {
	c := wholeContract()
	c.Bases[0].Number, c.Bases[1].Name = beyond, ""
	equal(t, "baselines", claims.Check(c), api.ErrArg)
	c = wholeContract()
	c.Prices[0].Number, c.Prices[1].Name = beyond, ""
	equal(t, "prices", claims.Check(c), api.ErrArg)
	c = wholeContract()
	c.Clauses[0].Pay, c.Clauses[1].Name = ask("base", "none"), ""
	equal(t, "clauses", claims.Check(c), api.ErrNone)
	c = wholeContract()
	c.Clauses[1].When, c.Clauses[1].Pay = num(1), num(beyond)
	equal(t, "a Pay that is none behind a When that is no truth", claims.Check(c), api.ErrForm)
	c.Clauses[1].When, c.Clauses[1].Pay = do("<", ask("base", "none"), num(1)), do("<", num(1), num(1))
	equal(t, "a Pay that is no number behind a When that asks for nothing", claims.Check(c), api.ErrArg)
}

// largest is a contract with as much as there may be of everything.
func largest() api.Contract {
	name := func(i int) string { return fmt.Sprintf("z%s%02d", strings.Repeat("-", api.MaxName-3), i) }
	deep := ask("base", name(0))
	for range api.MaxNest - 2 {
		deep = do("+", deep, num(-api.MaxAmount))
	}
	var c api.Contract
	for i := range api.MaxBases {
		c.Bases = append(c.Bases, api.Base{Name: name(i), Number: -api.MaxAmount})
		c.Prices = append(c.Prices, api.Base{Name: name(i), Number: api.MaxAmount})
	}
	for i := range api.MaxClauses {
		x := api.Clause{Name: name(i), Notice: api.MaxTime, Share: 100, Cap: api.MaxAmount, When: do("<", deep, num(0)), Pay: do("+", deep, num(0))}
		if i%2 == 0 {
			x.Notice, x.Share, x.Cap = 0, 0, 0
		}
		c.Clauses = append(c.Clauses, x)
	}
	return c
}

// TestCheckLimits: P9.3 and R7, limits are allowed themselves; a baseline, a price and a clause may have one name.
func TestCheckLimits(t *testing.T) {
	equal(t, "the largest contract", claims.Check(largest()), api.OK)
	c := wholeContract()
	c.Clauses[1].Name = "clay"
	equal(t, "the same name for different things", claims.Check(c), api.OK)
}

// TestCheckValue: P9.3, the errors of Value behind those of the contract and the record, in their order.
func TestCheckValue(t *testing.T) {
	for _, c := range []struct {
		what string
		now  int
		x    api.Expr
		want api.Errno
	}{
		{"a time below 0", -1, api.Expr{}, api.ErrArg},
		{"a time behind all times", behind, api.Expr{}, api.ErrArg},
		{"a time as little as can be", math.MinInt, api.Expr{}, api.ErrArg},
		{"no formula", 0, api.Expr{}, api.ErrForm},
		{"an argument of another type, and no such baseline", 0, do("not", ask("base", "none")), api.ErrForm},
		{"no such baseline", 0, ask("base", "hour"), api.ErrNone},
		{"no such price", 0, do("<", num(1), ask("price", "sum")), api.ErrNone},
		{"a price", 0, ask("price", "hour"), api.OK},
		{"the last time", api.MaxTime, ask("now"), api.OK},
	} {
		value, e := claims.Value(wholeContract(), exampleRecord(), c.now, c.x)
		alone(t, c.what, e, value)
		equal(t, c.what, e, c.want)
	}
	for what, x := range noFormulas() {
		value, e := claims.Value(wholeContract(), exampleRecord(), 0, x)
		alone(t, what, e, value)
		equal(t, what, e, api.ErrForm)
	}
}

// TestCheckClause: P9.3, the errors of Clause and Between behind those of the contract and the record, in their order.
func TestCheckClause(t *testing.T) {
	bad := make([]api.Fact, 513)
	for _, c := range []struct {
		what        string
		now, clause int
		want        api.Errno
	}{
		{"a time below 0", -1, -1, api.ErrArg},
		{"a time behind all times", behind, 2, api.ErrArg},
		{"a clause below 0", 0, -1, api.ErrNone},
		{"no such clause", api.MaxTime, 2, api.ErrNone},
		{"a clause far off", 0, math.MaxInt, api.ErrNone},
	} {
		claim, e := claims.Clause(wholeContract(), exampleRecord(), c.now, c.clause)
		alone(t, c.what, e, claim)
		low, high, f := claims.Between(wholeContract(), exampleRecord(), bad, c.now, c.clause)
		alone(t, c.what, f, low, high)
		equal(t, c.what, []api.Errno{e, f}, []api.Errno{c.want, c.want})
	}
	list, total, e := claims.Account(wholeContract(), exampleRecord(), -1)
	alone(t, "Account", e, list, total)
	list, total, f := claims.Account(wholeContract(), exampleRecord(), behind)
	alone(t, "Account", f, list, total)
	equal(t, "Account", []api.Errno{e, f}, []api.Errno{api.ErrArg, api.ErrArg})
}

// TestCheckBetween: P9.3, the errors of contested facts, in their order.
func TestCheckBetween(t *testing.T) {
	fact := api.Fact{Time: 7, Kind: "met", Item: "clay", By: "ann", Number: 1}
	many := func(n int) []api.Fact { return slices.Repeat([]api.Fact{fact}, n) }
	for _, c := range []struct {
		what         string
		l, contested []api.Fact
		want         api.Errno
	}{
		{"none", exampleRecord(), nil, api.OK},
		{"6 contested facts", exampleRecord(), many(6), api.OK},
		{"7 contested facts", exampleRecord(), many(7), api.ErrLimit},
		{"7 contested facts of which the last one is wrong", exampleRecord(), append(many(6), api.Fact{}), api.ErrName},
		{"512 facts", many(512), nil, api.OK},
		{"512 facts, and one more", many(512), many(1), api.ErrLimit},
		{"506 facts, and 6 more", many(506), many(6), api.OK},
		{"507 facts, and 6 more", many(507), many(6), api.ErrLimit},
	} {
		low, high, e := claims.Between(exampleContract(), c.l, c.contested, 9, 0)
		alone(t, c.what, e, low, high)
		equal(t, c.what, e, c.want)
	}
}
