package claims_test

import (
	"fmt"
	"math/rand"
	"slices"
	"strings"
	"testing"

	"underpin/api"
	"underpin/claims"
)

// TestExample: the examples of the chapter.
func TestExample(t *testing.T) {
	c, l := exampleContract(), exampleRecord()
	claim, e := claims.Clause(c, l, 100, 0)
	equal(t, "with all facts", []any{claim, e}, []any{api.Claim{State: api.ClDue, Since: 9, Amount: 18, Pay: 9, Facts: []int{0, 1, 2}}, api.OK})
	claim, e = claims.Clause(c, l[:2], 69, 0)
	equal(t, "without the notice, at 69", []any{claim, e}, []any{api.Claim{State: api.ClOpen, Since: 9, Amount: 18, Facts: []int{0, 1}}, api.OK})
	claim, e = claims.Clause(c, l[:2], 70, 0)
	equal(t, "without the notice, at 70", []any{claim, e}, []any{api.Claim{State: api.ClBarred, Since: 9, Amount: 18, Facts: []int{0, 1}}, api.OK})
	low, high, e := claims.Between(c, []api.Fact{l[0], l[2]}, l[1:2], 100, 0)
	equal(t, "Between", []any{low, high, e}, []any{int64(0), int64(9), api.OK})
	list, total, e := claims.Account(c, l, 100)
	equal(t, "Account", []any{said(list), total, e}, []any{said([]api.Claim{{State: api.ClDue, Since: 9, Amount: 18, Pay: 9, Facts: []int{0, 1, 2}}}), int64(9), api.OK})
	list, total, e = claims.Account(api.Contract{}, l, 100)
	equal(t, "Account of nothing", []any{len(list), total, e}, []any{0, int64(0), api.OK})
}

// one is a contract of one clause, x.
func one(t *testing.T, notice, share int, most int64, when, pay string) api.Contract {
	x := api.Clause{Name: "x", Notice: notice, Share: share, Cap: most, When: form(t, when), Pay: form(t, pay)}
	return api.Contract{Bases: []api.Base{{Name: "b", Number: 3}}, Clauses: []api.Clause{x}}
}

// claimText writes a claim.
func claimText(c api.Claim) string {
	state := map[api.ClaimState]string{api.ClQuiet: "quiet", api.ClOpen: "open", api.ClBarred: "barred", api.ClDue: "due"}[c.State]
	return fmt.Sprint(state, " ", c.Since, " ", c.Amount, " ", c.Pay, " ", c.Facts)
}

// claimCases are claims of a clause with its notice, share and cap.
var claimCases = []struct {
	what          string
	notice, share int
	most          int64
	when, pay     string
	facts         string
	now           int
	want          string
}{
	{"it never arises", 5, 100, 100, "(= 1 2)", "7", "", 100, "quiet -1 0 0 []"},
	{"it arises at once", 5, 100, 100, "(= 1 1)", "7", "", 0, "open 0 7 0 []"},
	{"a quiet one rests on facts, too", 5, 100, 100, "(< 5 (sum m k))", "(count m j)", "1 m k a 2\n2 m j a 2\n3 m i a 9\n4 notice x a 0\n5 notice y a 0", 9, "quiet -1 0 0 [0 1 3]"},
	{"facts behind now do not count", 5, 100, 100, "(< 1 (sum m k))", "(count m k)", "1 m k a 2\n2 m k a 2\n3 notice x a 0", 0, "quiet -1 0 0 []"},
	{"facts at now count", 5, 100, 100, "(< 1 (sum m k))", "(count m k)", "1 m k a 2\n2 m k a 2\n3 notice x a 0", 1, "open 1 1 0 [0]"},
	{"Since stays, Amount goes on", 5, 100, 100, "(< 1 (sum m k))", "(count m k)", "1 m k a 2\n2 m k a 2\n3 notice x a 0", 2, "open 1 2 0 [0 1]"},
	{"Since stays when When is false again", 5, 100, 100, "(= (sum m k) 1)", "(+ (now) (sum m k))", "4 m k a 1\n6 m k a 1\n8 notice x a 0", 20, "due 4 22 22 [0 1 2]"},
	{"When is false between facts of one time", 0, 100, 100, "(= (sum m k) 1)", "7", "4 m k a 1\n4 m k a 1\n", 20, "quiet -1 0 0 [0 1]"},
	{"it arises with the time alone", 0, 100, 100, "(<= 17 (now))", "7", "4 m k a 1", 30, "due 17 7 7 []"},
	{"it arises now", 0, 100, 100, "(<= 30 (now))", "7", "", 30, "due 30 7 7 []"},
	{"it does not arise yet", 0, 100, 100, "(<= 31 (now))", "7", "", 30, "quiet -1 0 0 []"},
	{"it arises for a minute", 0, 100, 100, "(= 17 (now))", "(now)", "4 m k a 1\n17 m k a 1\n18 m k a 1", 30, "due 17 30 30 []"},
	{"it arises a while after a fact", 0, 100, 100, "(and (<= 0 (last m k)) (<= (+ 10 (last m k)) (now)))", "(sum m k)", "4 m k a 1\n9 m k a 1\n25 m k a 5", 40, "due 19 7 7 [0 1 2]"},
	{"it arises between two facts", 0, 100, 100, "(= (- (now) (last m k)) 3)", "1", "1 m k a 0\n3 m k a 0\n5 m k a 0\n9 m k a 0", 40, "due 8 1 1 [0 1 2 3]"},
	{"at the last time", 0, 100, 100, "(<= 100000 (now))", "7", "100000 m k a 1", api.MaxTime, "due 100000 7 7 []"},
	{"notice at Since", 5, 100, 100, "(<= 10 (now))", "7", "10 notice x a 0", 99, "due 10 7 7 [0]"},
	{"notice ahead of Since", 5, 100, 100, "(<= 10 (now))", "7", "9 notice x a 0", 15, "open 10 7 0 [0]"},
	{"notice at the last time for it", 5, 100, 100, "(<= 10 (now))", "7", "15 notice x a 0", 99, "due 10 7 7 [0]"},
	{"notice behind the last time for it", 5, 100, 100, "(<= 10 (now))", "7", "16 notice x a 0", 99, "barred 10 7 0 [0]"},
	{"notice behind now", 5, 100, 100, "(<= 10 (now))", "7", "14 notice x a 0", 13, "open 10 7 0 []"},
	{"the last time for it", 5, 100, 100, "(<= 10 (now))", "7", "", 15, "open 10 7 0 []"},
	{"the minute behind the last time for it", 5, 100, 100, "(<= 10 (now))", "7", "", 16, "barred 10 7 0 []"},
	{"notice of another clause", 5, 100, 100, "(<= 10 (now))", "7", "11 notice y a 0", 99, "barred 10 7 0 []"},
	{"no notice, but about the clause", 5, 100, 100, "(<= 10 (now))", "7", "11 note x a 0", 99, "barred 10 7 0 []"},
	{"several notices", 5, 100, 100, "(<= 10 (now))", "7", "9 notice x a 0\n12 notice x b 5\n17 notice x a 0", 99, "due 10 7 7 [0 1 2]"},
	{"no notice needed", 0, 100, 100, "(<= 10 (now))", "7", "9 notice x a 0", 99, "due 10 7 7 [0]"},
	{"a notice that is asked for", 9, 100, 100, "(<= 1 (count notice x))", "(sum notice x)", "3 notice x a 8", 99, "due 3 8 8 [0]"},
	{"notice far ahead of its end", api.MaxTime, 100, 100, "(= 1 1)", "7", "", api.MaxTime, "open 0 7 0 []"},
	{"a share, rounded down", 0, 33, 100, "(= 1 1)", "10", "", 5, "due 0 10 3 []"},
	{"no share", 0, 0, 100, "(= 1 1)", "10", "", 5, "due 0 10 0 []"},
	{"a share just below a whole number", 0, 99, 100, "(= 1 1)", "1", "", 5, "due 0 1 0 []"},
	{"less than nothing", 0, 50, 100, "(= 1 1)", "-1", "", 5, "due 0 -1 0 []"},
	{"much less than nothing", 0, 100, 100, "(= 1 1)", "-1000000000000", "", 5, "due 0 -1000000000000 0 []"},
	{"the cap", 0, 100, 100, "(= 1 1)", "100", "", 5, "due 0 100 100 []"},
	{"above the cap", 0, 100, 100, "(= 1 1)", "101", "", 5, "due 0 101 100 []"},
	{"a share below the cap", 0, 50, 100, "(= 1 1)", "199", "", 5, "due 0 199 99 []"},
	{"a share above the cap", 0, 50, 100, "(= 1 1)", "202", "", 5, "due 0 202 100 []"},
	{"a cap of nothing", 0, 100, 0, "(= 1 1)", "7", "", 5, "due 0 7 0 []"},
	{"as much as can be", 0, 100, api.MaxAmount, "(= 1 1)", "(* 1000000000000 1000000000000)", "", 5, "due 0 1000000000000000 1000000000000 []"},
	{"facts of all questions", 0, 1, 1, "(= (sum a a) (count b b))", "(+ (first c c) (last d d) (latest e e) (base b))",
		"1 a a a 1\n1 b b a 1\n1 c c a 1\n1 d d a 1\n1 e e a 4\n1 a b a 1\n1 b a a 1\n2 a a b 0", 5, "due 0 9 0 [0 1 2 3 4 7]"},
	{"facts of parts that do not count", 0, 1, 1, "(or (= 1 1) (= 1 (sum a a)))", "(if (= 1 1) 5 (min 1 (sum b b)))", "1 a a a 1\n2 b b b 2", 5, "due 0 5 0 [0 1]"},
	{"the same fact for both", 0, 100, 100, "(= 1 (sum a a))", "(sum a a)", "1 a a a 1\n2 b b b 2", 5, "due 1 1 1 [0]"},
	{"a baseline named like a fact", 0, 100, 100, "(= 3 (base b))", "(base b)", "1 b b a 1", 5, "due 0 3 3 []"},
}

// TestClaims: P9.3, by hand.
func TestClaims(t *testing.T) {
	for _, x := range claimCases {
		c, l := one(t, x.notice, x.share, x.most, x.when, x.pay), facts(t, x.facts)
		claim, e := claims.Clause(c, l, x.now, 0)
		equal(t, x.what, []any{claimText(claim), e}, []any{x.want, api.OK})
		equal(t, x.what+" by the chapter's words", claimText(claimBy(c, l, x.now, c.Clauses[0])), x.want)
	}
}

// TestAccount: P9.3, all claims in order, and the sum of what is paid.
func TestAccount(t *testing.T) {
	c := exampleContract()
	for i, pay := range []int64{7, -3, 2000, 20} {
		x := api.Clause{Name: fmt.Sprint("c", i), Share: 100, Cap: 1000, When: do("<=", num(int64(10*i)), ask("now")), Pay: num(pay)}
		c.Clauses = append(c.Clauses, x)
	}
	c.Clauses[4].Notice = 3
	list, total, e := claims.Account(c, exampleRecord(), 30)
	var got []string
	for _, claim := range list {
		got = append(got, claimText(claim))
	}
	want := []string{"due 9 18 9 [0 1 2]", "due 0 7 7 []", "due 10 -3 0 []", "due 20 2000 1000 []", "open 30 20 0 []"}
	equal(t, "Account", []any{got, total, e}, []any{want, int64(1016), api.OK})
	var most api.Contract
	for i := range api.MaxClauses {
		most.Clauses = append(most.Clauses, api.Clause{Name: fmt.Sprint("c", i), Share: 100, Cap: api.MaxAmount, When: do("=", num(1), num(1)), Pay: num(api.MaxAmount)})
	}
	_, total, e = claims.Account(most, nil, 0)
	equal(t, "as much as can be", []any{total, e}, []any{int64(32 * api.MaxAmount), api.OK})
}

// TestClaimsRandom: P9.3, claims and accounts against the chapter's words, minute by minute.
func TestClaimsRandom(t *testing.T) {
	r := rand.New(rand.NewSource(341))
	states := map[api.ClaimState]int{}
	late, paid, least, capped := 0, 0, 0, 0
	for range 4000 {
		c, l, now := randomContract(r), randomRecord(r, 12, 40), r.Intn(50)
		var want []api.Claim
		total := int64(0)
		for i, x := range c.Clauses {
			claim, e := claims.Clause(c, l, now, i)
			by := claimBy(c, l, now, x)
			equal(t, said(c, l, now, i), []any{claimText(claim), e}, []any{claimText(by), api.OK})
			want, total = append(want, by), total+by.Pay
			states[by.State]++
			if by.Since > 0 {
				late++
			}
			switch {
			case by.State != api.ClDue:
			case by.Amount*int64(x.Share)/100 > x.Cap:
				capped++
			case by.Amount < 0:
				least++
			case by.Pay > 0:
				paid++
			}
		}
		list, sum, e := claims.Account(c, l, now)
		equal(t, said(c, l, now), []any{said(list), sum, e}, []any{said(want), total, api.OK})
	}
	for state := api.ClQuiet; state <= api.ClDue; state++ {
		if states[state] < 300 {
			t.Error("too few:", state, states[state])
		}
	}
	if late < 500 || paid < 300 || least < 200 || capped < 100 {
		t.Error("too few:", late, paid, least, capped)
	}
}

// TestBetween: P9.3, by hand.
func TestBetween(t *testing.T) {
	order := one(t, 0, 100, 100, "(= 1 1)", "(latest m k)")
	for _, x := range []struct {
		what         string
		c            api.Contract
		l, contested string
		now          int
		low, high    int64
	}{
		{"nothing contested", order, "1 m k a 5", "", 9, 5, 5},
		{"nothing at all", order, "", "", 9, 0, 0},
		{"behind the others of its time", order, "1 m k a 5\n2 m k a 6", "1 m k a 50", 9, 6, 6},
		{"behind the others of its time, the last one", order, "1 m k a 5\n2 m k a 6", "2 m k a 50", 9, 6, 50},
		{"in their order", order, "1 m k a 5", "1 m k a 6\n1 m k a 7", 9, 5, 7},
		{"one takes the other's place", order, "1 m k a 5", "1 m k a 90\n1 m k a 7", 9, 5, 90},
		{"behind now", order, "1 m k a 5", "10 m k a 90", 9, 5, 5},
		{"at now", order, "1 m k a 5", "9 m k a 90", 9, 5, 90},
		{"ahead of all", order, "1 m k a 5", "0 m k a 90", 9, 5, 5},
		{"neither none nor all is least", one(t, 0, 100, 100, "(= 1 1)", "(* (sum m k) (sum m k))"), "1 m k a -5", "2 m k a 5\n3 m k a 3", 9, 0, 25},
		{"neither none nor all is greatest", one(t, 0, 100, 100, "(= 1 1)", "(sum m k)"), "1 m k a 5", "2 m k a 7\n3 m k a -3", 9, 2, 12},
		{"six of them", one(t, 0, 100, 100, "(= 1 1)", "(sum m k)"), "", "1 m k a 1\n1 m k a 2\n1 m k a 4\n1 m k a -8\n1 m k a 16\n1 m k a 32", 9, 0, 55},
		{"a notice is contested", one(t, 5, 100, 100, "(= 1 1)", "7"), "", "4 notice x a 0", 9, 0, 7},
		{"a notice in time if it arises later", one(t, 5, 100, 100, "(<= 8 (sum m k))", "(sum m k)"), "1 m k a 4\n12 m k a 4\n14 notice x b 0", "2 m k a 6", 20, 0, 8},
	} {
		low, high, e := claims.Between(x.c, facts(t, x.l), facts(t, x.contested), x.now, 0)
		equal(t, x.what, []any{low, high, e}, []any{x.low, x.high, api.OK})
	}
}

// TestBetweenRandom: P9.3 and P9.6, both bounds are reached, and what is paid with any of the facts lies between them.
func TestBetweenRandom(t *testing.T) {
	r := rand.New(rand.NewSource(342))
	wide, inner := 0, 0
	for range 1500 {
		c, l, contested, now := randomContract(r), randomRecord(r, 8, 20), randomRecord(r, 6, 20), 10+r.Intn(15)
		clause := r.Intn(len(c.Clauses))
		x := &c.Clauses[clause]
		x.Share, x.Cap = 100, api.MaxAmount
		subjects := [][]string{{"notice", x.Name}, {pick(r, kinds), pick(r, items)}}
		if r.Intn(3) == 0 {
			x.When = do("<", num(0), ask("now"))
		}
		if r.Intn(3) > 0 {
			x.Pay = do("+", x.Pay, do("*", num(3), ask("sum", subjects[1]...)), num(8))
		}
		for i := range contested {
			s := pick(r, subjects)
			contested[i].Kind, contested[i].Item = s[0], s[1]
		}
		var pays []int64
		for set := range 1 << len(contested) {
			with := l
			for i, f := range contested {
				if set>>i&1 == 1 {
					with = put(with, f)
				}
			}
			pays = append(pays, claimBy(c, with, now, c.Clauses[clause]).Pay)
		}
		want := []any{slices.Min(pays), slices.Max(pays), api.OK}
		low, high, e := claims.Between(c, l, contested, now, clause)
		equal(t, said(c, l, contested, now, clause), []any{low, high, e}, want)
		if low < high {
			wide++
		}
		if first, last := pays[0], pays[len(pays)-1]; low < min(first, last) || high > max(first, last) {
			inner++
		}
	}
	if wide < 200 || inner < 50 {
		t.Error("too few:", wide, inner)
	}
}

// TestLongest: the longest record and formulas, with the time in them, up to the last time.
func TestLongest(t *testing.T) {
	long := "(< (+" + strings.Repeat(" (now)", 300) + ") 0)"
	wide := "(+" + strings.Repeat(" (sum m k)", 150) + ")"
	c := one(t, api.MaxTime, 100, api.MaxAmount, long, wide)
	var l []api.Fact
	for i := range api.MaxFacts - api.MaxContested {
		l = append(l, api.Fact{Time: 190 * i, Kind: "m", Item: "k", By: "a", Number: 1})
	}
	contested := slices.Repeat([]api.Fact{{Time: 7, Kind: "m", Item: "k", By: "a", Number: 1}}, 3)
	claim, e := claims.Clause(c, l, api.MaxTime, 0)
	equal(t, "quiet up to the end", []any{claim.State, claim.Since, len(claim.Facts), e}, []any{api.ClQuiet, -1, 506, api.OK})
	c.Clauses[0].When, c.Clauses[0].Notice = form(t, "(<= 99999 (now))"), 0
	low, high, e := claims.Between(c, l, contested, api.MaxTime, 0)
	equal(t, "bounds", []any{low, high, e}, []any{int64(506 * 150), int64(509 * 150), api.OK})
}
