package claims

import (
	"cmp"
	"iter"
	"slices"

	"underpin/api"
)

// noticeKind is the kind of the facts that are notices.
const noticeKind = "notice"

// claimOf returns the claim of a clause at a time.
func claimOf(c api.Contract, l []api.Fact, now int, x api.Clause) api.Claim {
	t, m := newTable(), momentAt(c, l, now)
	claim := api.Claim{Since: arises(m, t.formula(x.When)), Facts: restsOn(x, m.l)}
	if claim.Since < 0 {
		return claim
	}
	claim.State = stateOf(x, m, claim.Since)
	claim.Amount = t.formula(x.Pay).value(m)
	if claim.State == api.ClDue {
		claim.Pay = min(max(quotient(claim.Amount*int64(x.Share), 100), 0), x.Cap)
	}
	return claim
}

// arises returns the least time up to a moment at which a formula is true; -1 if there is none.
func arises(m *moment, when formula) int {
	for s, facts := range stretches(m) {
		at := &moment{m.c, facts, s.Low}
		f := when.fixed(at)
		if _, still := f.(constant); still {
			s.High = s.Low // it is the same all the time
		}
		for ; at.now <= s.High; at.now++ {
			if f.value(at) != 0 {
				return at.now
			}
		}
	}
	return -1
}

// stretches tells the times from 0 up to a moment in spans, in each of which the facts up to its times are the same, with
// these facts.
func stretches(m *moment) iter.Seq2[api.Span, []api.Fact] {
	return func(yield func(api.Span, []api.Fact) bool) {
		for from := 0; from <= m.now; {
			facts := upTo(m.l, from)
			to := m.now
			if len(facts) < len(m.l) {
				to = m.l[len(facts)].Time - 1
			}
			if !yield(api.Span{Low: from, High: to}, facts) {
				return
			}
			from = to + 1
		}
	}
}

// stateOf returns what a claim is that has arisen.
func stateOf(x api.Clause, m *moment, since int) api.ClaimState {
	if x.Notice == 0 {
		return api.ClDue
	}
	for f := range m.facts([]string{noticeKind, x.Name}) {
		if f.Time >= since && f.Time <= since+x.Notice {
			return api.ClDue
		}
	}
	if m.now <= since+x.Notice {
		return api.ClOpen
	}
	return api.ClBarred
}

// subject is what a fact is about.
type subject struct{ kind, item string }

// restsOn returns the numbers of the facts on which the claim of a clause rests.
func restsOn(x api.Clause, l []api.Fact) []int {
	rests := map[subject]bool{{noticeKind, x.Name}: true}
	for _, f := range []api.Expr{x.When, x.Pay} {
		for _, part := range parts(f) {
			if len(part.Words) == 2 { // of all questions those about facts have two words
				rests[subject{part.Words[0], part.Words[1]}] = true
			}
		}
	}
	var out []int
	for i, f := range l {
		if rests[subject{f.Kind, f.Item}] {
			out = append(out, i)
		}
	}
	return out
}

// choices returns what tells one choice of facts each time that it is called, that of none first, and false behind the last
// one.
func choices(l []api.Fact) func() ([]api.Fact, bool) {
	next := 0
	return func() ([]api.Fact, bool) {
		if next == 1<<len(l) {
			return nil, false
		}
		var some []api.Fact
		for i, f := range l {
			if next>>i&1 == 1 {
				some = append(some, f)
			}
		}
		next++
		return some, true
	}
}

// with returns a record with more facts, each behind all others whose Time is at most its own.
func with(l, more []api.Fact) []api.Fact {
	all := slices.Concat(l, more)
	slices.SortStableFunc(all, func(a, b api.Fact) int { return cmp.Compare(a.Time, b.Time) })
	return all
}
