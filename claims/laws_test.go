package claims_test

import (
	"fmt"
	"math"
	"math/rand"
	"reflect"
	"slices"
	"strings"
	"sync"
	"testing"

	"underpin/api"
	"underpin/claims"
)

// TestSealed: P9.4, a record of which a byte of a fact's text was changed is broken at this fact if its seals are the old ones.
func TestSealed(t *testing.T) {
	r := rand.New(rand.NewSource(351))
	tried := 0
	for range 400 {
		l := randomRecord(r, 6, 99)
		seals, e := claims.Seals(l)
		equal(t, "Seals", e, api.OK)
		text, _ := claims.Write(l)
		for at := range text {
			for _, b := range []byte("az09- ") {
				spoiled := []byte(text)
				spoiled[at] = b
				bad, _, e := claims.Read(string(spoiled))
				if e != api.OK || slices.Equal(bad, l) || len(bad) != len(l) {
					continue
				}
				tried++
				want := strings.Count(text[:at], "\n")
				broken, e := claims.Broken(bad, seals)
				equal(t, fmt.Sprintf("%q", spoiled), []any{broken, e}, []any{want, api.OK})
			}
		}
	}
	if tried < 5000 {
		t.Error("too few:", tried)
	}
}

// TestFromTheRecord: P9.5, without the facts that a claim does not name it is the same, but for the numbers of its facts; and
// so is it without the other clauses.
func TestFromTheRecord(t *testing.T) {
	r := rand.New(rand.NewSource(352))
	without, with := 0, 0
	for range 2000 {
		c, l, now := randomContract(r), randomRecord(r, 15, 20), r.Intn(25)
		i := r.Intn(len(c.Clauses))
		claim, e := claims.Clause(c, l, now, i)
		equal(t, "Clause", e, api.OK)
		var named []api.Fact
		for _, k := range claim.Facts {
			named = append(named, l[k])
		}
		alone := c
		alone.Clauses = c.Clauses[i : i+1]
		again, e := claims.Clause(alone, named, now, 0)
		equal(t, "Clause", e, api.OK)
		claim.Facts = all(len(named))
		equal(t, said(c, l, now, i), claimText(again), claimText(claim))
		if len(named) < len(l) {
			without++
		}
		if len(named) > 0 {
			with++
		}
	}
	if without < 300 || with < 300 {
		t.Error("too few:", without, with)
	}
}

// TestEachFactCounts: P9.5, no fact is named for nothing: each kind of questions changes with its facts.
func TestEachFactCounts(t *testing.T) {
	for _, name := range []string{"sum", "count", "first", "last", "latest"} {
		c := one(t, 0, 100, 100, "(= 1 1)", "("+name+" m k)")
		l := facts(t, "1 m k a 2\n2 m k a 3")
		claim, _ := claims.Clause(c, l, 9, 0)
		equal(t, name, claim.Facts, []int{0, 1})
		changed := false
		for i := range l {
			other, _ := claims.Clause(c, slices.Delete(slices.Clone(l), i, i+1), 9, 0)
			changed = changed || other.Amount != claim.Amount
		}
		equal(t, name, changed, true)
	}
}

// TestPaid: P9.6 and P0.6, nothing without notice in time where it is due, nothing above a Cap, nothing below 0.
func TestPaid(t *testing.T) {
	r := rand.New(rand.NewSource(353))
	paid := 0
	for range 3000 {
		c, l, now := randomContract(r), randomRecord(r, 15, 20), r.Intn(40)
		list, total, e := claims.Account(c, l, now)
		equal(t, "Account", e, api.OK)
		for i, claim := range list {
			x := c.Clauses[i]
			if claim.Pay < 0 || claim.Pay > x.Cap {
				t.Fatal("Pay:", said(c, l, now, claim))
			}
			total -= claim.Pay
			if claim.Pay == 0 {
				continue
			}
			paid++
			noticed := slices.ContainsFunc(l, func(f api.Fact) bool {
				return f.Kind == "notice" && f.Item == x.Name && f.Time >= claim.Since && f.Time <= min(now, claim.Since+x.Notice)
			})
			if claim.Since < 0 || claim.Since > now || x.Notice > 0 && !noticed {
				t.Fatal("without notice:", said(c, l, now, claim))
			}
		}
		equal(t, "total", total, int64(0))
	}
	if paid < 300 {
		t.Error("too few:", paid)
	}
}

// call is what functions are called with.
type call struct {
	l, other, contested []api.Fact
	seals               []uint64
	text                string
	x, y                api.Expr
	c                   api.Contract
	now, clause         int
}

// results calls all functions, fails if one of them has a result beside an error, and returns what they return.
func (c call) results(t testing.TB) []any {
	t.Helper()
	var all []any
	keep := func(what string, e api.Errno, l ...any) {
		t.Helper()
		alone(t, what, e, l...)
		all = append(all, append(l, e)...)
	}
	keep("CheckRecord", api.OK, claims.CheckRecord(c.l))
	text, e := claims.Write(c.l)
	keep("Write", e, text)
	for _, s := range []string{c.text, text} {
		l, line, e := claims.Read(s)
		keep("Read", e, l)
		all = append(all, line)
		x, at, e := claims.Parse(s)
		keep("Parse", e, x)
		all = append(all, at)
		k, line, e := claims.ParseContract(s)
		keep("ParseContract", e, k)
		all = append(all, line)
	}
	seals, e := claims.Seals(c.l)
	keep("Seals", e, seals)
	broken, e := claims.Broken(c.l, c.seals)
	keep("Broken", e, broken)
	both, first, second, e := claims.Agree(c.l, c.other)
	keep("Agree", e, both, first, second)
	text, e = claims.Print(c.x)
	keep("Print", e, text)
	x, _, e := claims.Parse(text)
	keep("Parse", e, x)
	keep("Same", api.OK, claims.Same(c.x, c.y))
	keep("Check", api.OK, claims.Check(c.c))
	text, e = claims.PrintContract(c.c)
	keep("PrintContract", e, text)
	k, _, e := claims.ParseContract(text)
	keep("ParseContract", e, k)
	value, e := claims.Value(c.c, c.l, c.now, c.x)
	keep("Value", e, value)
	claim, e := claims.Clause(c.c, c.l, c.now, c.clause)
	keep("Clause", e, claim)
	list, total, e := claims.Account(c.c, c.l, c.now)
	keep("Account", e, list, total)
	low, high, e := claims.Between(c.c, c.l, c.contested, c.now, c.clause)
	keep("Between", e, low, high)
	return all
}

// randomCall makes arguments without errors.
func randomCall(r *rand.Rand) call {
	c := call{l: randomRecord(r, 9, 20), other: randomRecord(r, 5, 20), contested: randomRecord(r, 4, 20), c: randomContract(r), now: r.Intn(25)}
	c.seals, _ = claims.Seals(c.l)
	c.x, c.y = randomNumber(r, c.c, 4), randomTruth(r, c.c, 4)
	c.clause = r.Intn(len(c.c.Clauses))
	switch r.Intn(3) {
	case 0:
		c.text, _ = claims.Write(c.other)
	case 1:
		c.text, _ = claims.Print(c.y)
	default:
		c.text, _ = claims.PrintContract(c.c)
	}
	for range r.Intn(4) {
		c.other = append(c.other, c.l...)
	}
	slices.SortStableFunc(c.other, func(a, b api.Fact) int { return a.Time - b.Time })
	return c
}

// TestArgumentsAndTwins: R4 and R10, no argument changes, and equal calls return equal results.
func TestArgumentsAndTwins(t *testing.T) {
	r := rand.New(rand.NewSource(354))
	for range 500 {
		c := randomCall(r)
		before := fmt.Sprintf("%#v", c)
		first := said(c.results(t))
		equal(t, "arguments", fmt.Sprintf("%#v", c), before)
		equal(t, "twins", said(c.results(t)), first)
	}
}

// TestRoomBehind: R4, the room behind the lists of arguments is not written to.
func TestRoomBehind(t *testing.T) {
	r := rand.New(rand.NewSource(355))
	mark := api.Fact{Time: 77, Kind: "behind"}
	for range 300 {
		c := randomCall(r)
		lists := []*[]api.Fact{&c.l, &c.other, &c.contested}
		for _, l := range lists {
			*l = append(slices.Clone(*l), mark, mark, mark, mark, mark, mark)[:len(*l)]
		}
		c.x.Args = append(slices.Clone(c.x.Args), num(77), num(77))[:len(c.x.Args)]
		c.c.Bases = append(slices.Clone(c.c.Bases), api.Base{Name: "behind"})[:len(c.c.Bases)]
		c.results(t)
		for _, l := range lists {
			equal(t, "facts", (*l)[:len(*l)+6][len(*l):], []api.Fact{mark, mark, mark, mark, mark, mark})
		}
		equal(t, "arguments", c.x.Args[:len(c.x.Args)+2][len(c.x.Args):], []api.Expr{num(77), num(77)})
		equal(t, "baselines", c.c.Bases[:len(c.c.Bases)+1][len(c.c.Bases)].Name, "behind")
	}
}

// TestManyAtOnce: R10, calls at the same time do not influence one another.
func TestManyAtOnce(t *testing.T) {
	c := randomCall(rand.New(rand.NewSource(356)))
	want := said(c.results(t))
	var all sync.WaitGroup
	got := make([]string, 8)
	for i := range got {
		all.Go(func() { got[i] = said(c.results(t)) })
	}
	all.Wait()
	for _, s := range got {
		equal(t, "at once", s, want)
	}
}

// where is where a list lies in memory.
type where struct{ from, to uintptr }

// wheres returns where all lists in a value lie, with the room behind them.
func wheres(v reflect.Value) []where {
	var l []where
	switch v.Kind() {
	case reflect.Interface:
		if !v.IsNil() {
			l = wheres(v.Elem())
		}
	case reflect.Struct:
		for i := range v.NumField() {
			l = append(l, wheres(v.Field(i))...)
		}
	case reflect.Slice:
		if size := uintptr(v.Cap()) * v.Type().Elem().Size(); size > 0 {
			l = append(l, where{v.Pointer(), v.Pointer() + size})
		}
		for i := range v.Len() {
			l = append(l, wheres(v.Index(i))...)
		}
	}
	return l
}

// TestMemory: R4, results share no memory with arguments or with each other.
func TestMemory(t *testing.T) {
	r := rand.New(rand.NewSource(357))
	contracts := 0
	for range 300 {
		c := randomCall(r)
		results := c.results(t)
		l := wheres(reflect.ValueOf([]any{c.l, c.other, c.contested, c.seals, c.x, c.y, c.c, results}))
		slices.SortFunc(l, func(a, b where) int { return int(int64(a.from) - int64(b.from)) })
		for i := 1; i < len(l); i++ {
			if l[i].from < l[i-1].to {
				t.Fatal("shared memory")
			}
		}
		for _, x := range results {
			if k, is := x.(api.Contract); is && len(k.Clauses) > 0 {
				contracts++
			}
		}
	}
	if contracts < 300 {
		t.Error("too few:", contracts)
	}
}

// TestNilAndEmpty: R3, nil and empty lists are the same.
func TestNilAndEmpty(t *testing.T) {
	var none, filled call
	filled.l, filled.other, filled.contested, filled.seals = []api.Fact{}, []api.Fact{}, []api.Fact{}, []uint64{}
	filled.x, filled.y = api.Expr{Args: []api.Expr{}, Words: []string{}}, api.Expr{}
	filled.c = api.Contract{Bases: []api.Base{}, Prices: []api.Base{}, Clauses: []api.Clause{}}
	equal(t, "nothing", said(filled.results(t)), said(none.results(t)))
	empty := func(x api.Expr) api.Expr {
		if len(x.Args) == 0 {
			x.Args = []api.Expr{}
		}
		if len(x.Words) == 0 {
			x.Words = []string{}
		}
		return x
	}
	none.x, filled.x = ask("now"), empty(ask("now"))
	none.y, filled.y = filled.x, none.x
	when := do("=", ask("now"), num(0))
	none.c = api.Contract{Clauses: []api.Clause{{Name: "a", When: when, Pay: num(5), Share: 100, Cap: 9}}}
	again := empty(do("=", empty(ask("now")), empty(num(0))))
	filled.c = none.c
	filled.c.Bases, filled.c.Prices = []api.Base{}, []api.Base{}
	filled.c.Clauses = []api.Clause{{Name: "a", When: again, Pay: empty(num(5)), Share: 100, Cap: 9}}
	equal(t, "hardly anything", said(filled.results(t)), said(none.results(t)))
}

// junk makes arguments of any form, most of them close to good ones.
type junk struct{ *rand.Rand }

func (j junk) text() string {
	l := []string{"", "a", "A", "-", "\x00\xff", "é", " ", "clay", "met", "now", "+", strings.Repeat("a", api.MaxName), strings.Repeat("a", api.MaxName+1)}
	return l[j.Intn(len(l))]
}

func (j junk) number() int64 {
	if j.Intn(2) == 0 {
		return int64(j.Intn(12) - 1)
	}
	l := []int64{math.MinInt64, math.MaxInt64, 1 << 32, -1 << 31, api.MaxAmount, api.MaxAmount + 1, -api.MaxAmount, api.MaxReckon + 1, api.MaxTime, api.MaxTime + 1}
	return l[j.Intn(len(l))]
}

// formula makes a formula, or what looks like one.
func (j junk) formula(x api.Expr) api.Expr {
	x.Args, x.Words = slices.Clone(x.Args), slices.Clone(x.Words)
	if len(x.Args) > 0 && j.Intn(3) > 0 {
		i := j.Intn(len(x.Args))
		x.Args[i] = j.formula(x.Args[i])
		return x
	}
	switch j.Intn(6) {
	case 0:
		x.Kind = api.ExprKind(j.Intn(6))
	case 1:
		x.Name = j.text()
	case 2:
		x.Number = j.number()
	case 3:
		x.Words = append(x.Words, j.text())
	case 4:
		x.Args = append(x.Args, num(j.number()))
	default:
		x = randomNumber(j.Rand, exampleContract(), 3)
	}
	return x
}

// spoilText changes some bytes of a text.
func (j junk) spoilText(text string) string {
	for range 1 + j.Intn(3) {
		at := j.Intn(len(text) + 1)
		text = text[:at] + j.text() + text[min(len(text), at+j.Intn(3)):]
	}
	return text
}

// spoilContract changes something of a contract.
func (j junk) spoilContract(c *api.Contract) {
	c.Clauses = slices.Clone(c.Clauses)
	x := &c.Clauses[j.Intn(len(c.Clauses))]
	switch j.Intn(8) {
	case 0:
		c.Bases = append(slices.Clone(c.Bases), api.Base{Name: j.text(), Number: j.number()})
	case 1:
		c.Prices = append(slices.Clone(c.Prices), api.Base{Name: j.text(), Number: j.number()})
	case 2:
		x.Name = j.text()
	case 3:
		x.Notice, x.Share, x.Cap = int(j.number()), int(j.number()), j.number()
	case 4:
		x.When = j.formula(x.When)
	case 5:
		x.Pay = j.formula(x.Pay)
	case 6:
		x.When, x.Pay = x.Pay, x.When
	}
}

// spoil changes something of a call.
func (j junk) spoil(c *call) {
	fact := api.Fact{Time: int(j.number()), Kind: j.text(), Item: j.text(), By: j.text(), Number: j.number()}
	switch j.Intn(9) {
	case 0:
		c.l = append(slices.Clone(c.l), fact)
	case 1:
		c.other = append(slices.Clone(c.other), fact)
	case 2:
		c.contested = append(slices.Clone(c.contested), fact)
	case 3:
		c.seals = append(slices.Clone(c.seals), uint64(j.number()))
	case 4:
		c.text = j.spoilText(c.text)
	case 5:
		c.x, c.y = j.formula(c.x), j.formula(c.y)
	case 6:
		c.now, c.clause = int(j.number()), int(j.number())
	default:
		j.spoilContract(&c.c)
	}
}

// TestAnything: P0.1, R2 and R8, whatever is given, each function ends, and has nothing beside an error.
func TestAnything(t *testing.T) {
	j := junk{rand.New(rand.NewSource(358))}
	right, wrong := 0, 0
	for range 6000 {
		c := randomCall(j.Rand)
		for range 1 + j.Intn(4) {
			j.spoil(&c)
		}
		if claims.Check(c.c) == api.OK {
			right++
		} else {
			wrong++
		}
		c.results(t)
	}
	if right < 1000 || wrong < 1000 {
		t.Error("too few:", right, wrong)
	}
	many := call{l: make([]api.Fact, 100000), other: make([]api.Fact, 100000), contested: make([]api.Fact, 100000), seals: make([]uint64, 100000)}
	many.c = api.Contract{Bases: make([]api.Base, 100000), Prices: make([]api.Base, 100000), Clauses: make([]api.Clause, 100000)}
	many.text = strings.Repeat("(+ 1 ", 100000)
	many.results(t)
	for _, odd := range oddFormulas() {
		c := randomCall(j.Rand)
		c.x = odd
		c.c.Clauses[0].When = odd
		c.results(t)
		c.c.Clauses[0].When, c.c.Clauses[0].Pay = c.y, odd
		c.results(t)
	}
	for _, text := range []string{strings.Repeat("(", api.MaxFormula), strings.Repeat("(+", 1000), strings.Repeat("(not ", 400), strings.Repeat("\n", api.MaxText), strings.Repeat("clause a 0 0 0\nwhen 1\npay 1\n", 2000)} {
		c := randomCall(j.Rand)
		c.text = text
		c.results(t)
	}
}

// TestReadme: the example of the README.
func TestReadme(t *testing.T) {
	l, _, e := claims.Read("5 met clay ann 8\n9 met clay ann 8\n30 notice ground ann 0\n")
	equal(t, "Read", e, api.OK)
	seals, e := claims.Seals(l)
	equal(t, "Seals", []any{len(seals), e}, []any{3, api.OK})
	broken, e := claims.Broken(l, seals)
	equal(t, "Broken", []any{broken, e}, []any{3, api.OK})
	c, _, e := claims.ParseContract("base clay 10\nprice clay 3\nclause ground 60 50 1000\n" +
		"when (< (base clay) (sum met clay))\npay (* (price clay) (- (sum met clay) (base clay)))\n")
	equal(t, "ParseContract", e, api.OK)
	claim, e := claims.Clause(c, l, 100, 0)
	equal(t, "Clause", []any{claim, e}, []any{api.Claim{State: api.ClDue, Since: 9, Amount: 18, Pay: 9, Facts: []int{0, 1, 2}}, api.OK})
	x, _, e := claims.Parse("(- (now) (last notice ground))")
	equal(t, "Parse", e, api.OK)
	value, e := claims.Value(c, l, 100, x)
	equal(t, "Value", []any{value, e}, []any{int64(70), api.OK})
	both, mine, yours, e := claims.Agree(l, l[1:])
	equal(t, "Agree", []any{len(both), len(mine), len(yours), e}, []any{2, 1, 0, api.OK})
	low, high, e := claims.Between(c, both, mine, 100, 0)
	equal(t, "Between", []any{low, high, e}, []any{int64(0), int64(9), api.OK})
}
