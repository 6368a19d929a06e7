package claims

import (
	"slices"

	"underpin/api"
)

// Check returns the first error of a contract (P9.3).
func Check(c api.Contract) api.Errno {
	if len(c.Bases) > api.MaxBases || len(c.Prices) > api.MaxBases {
		return api.ErrLimit
	}
	for _, l := range [][]api.Base{c.Bases, c.Prices} {
		if e := checkList(l, api.MaxBases, checkBase); e != api.OK {
			return e
		}
	}
	t := newTable()
	return checkList(c.Clauses, api.MaxClauses, func(ahead []api.Clause, x api.Clause) api.Errno {
		return checkClause(c, t, ahead, x)
	})
}

// checkList returns ErrLimit if a list has more than so many elements, or the error of its first element that has one.
// check is given the elements ahead of that, too.
func checkList[T any](list []T, most int, check func(ahead []T, x T) api.Errno) api.Errno {
	if len(list) > most {
		return api.ErrLimit
	}
	for i, x := range list {
		if e := check(list[:i], x); e != api.OK {
			return e
		}
	}
	return api.OK
}

// checkFact returns the error of a fact behind others.
func checkFact(ahead []api.Fact, f api.Fact) api.Errno {
	switch {
	case !isTime(f.Time), !isAmount(f.Number):
		return api.ErrArg
	case !isName(f.Kind), !isName(f.Item), !isName(f.By):
		return api.ErrName
	case len(ahead) > 0 && ahead[len(ahead)-1].Time > f.Time:
		return api.ErrState
	}
	return api.OK
}

// checkBase returns the error of a baseline, or of a price, behind others.
func checkBase(ahead []api.Base, b api.Base) api.Errno {
	switch {
	case !isName(b.Name):
		return api.ErrName
	case slices.ContainsFunc(ahead, func(other api.Base) bool { return other.Name == b.Name }):
		return api.ErrTwice
	case !isAmount(b.Number):
		return api.ErrArg
	}
	return api.OK
}

// checkClause returns the error of a clause behind others of a contract, whose baselines and prices have none.
func checkClause(c api.Contract, t table, ahead []api.Clause, x api.Clause) api.Errno {
	switch {
	case !isName(x.Name):
		return api.ErrName
	case slices.ContainsFunc(ahead, func(other api.Clause) bool { return other.Name == x.Name }):
		return api.ErrTwice
	case !isTime(x.Notice), x.Share < 0, x.Share > 100, x.Cap < 0, x.Cap > api.MaxAmount:
		return api.ErrArg
	}
	for _, f := range []api.Expr{x.When, x.Pay} {
		if _, e := Print(f); e != api.OK {
			return api.ErrForm
		}
	}
	switch {
	case t.typeOf(x.When) != logical, t.typeOf(x.Pay) != numeric:
		return api.ErrArg
	case !hasAll(c, x.When), !hasAll(c, x.Pay):
		return api.ErrNone
	}
	return api.OK
}

// hasAll tells whether a contract has all baselines and prices that a formula asks for.
func hasAll(c api.Contract, x api.Expr) bool {
	for _, part := range parts(x) {
		if part.Kind != api.ExAsk {
			continue
		}
		if part.Name == "base" && !hasBase(c.Bases, part.Words[0]) || part.Name == "price" && !hasBase(c.Prices, part.Words[0]) {
			return false
		}
	}
	return true
}

// hasBase tells whether one of several baselines, or prices, has a name.
func hasBase(l []api.Base, name string) bool {
	return slices.ContainsFunc(l, func(b api.Base) bool { return b.Name == name })
}

// checkMoment returns the error of a contract, of a record, or of a time.
func checkMoment(c api.Contract, l []api.Fact, now int) api.Errno {
	if e := Check(c); e != api.OK {
		return e
	}
	if e := CheckRecord(l); e != api.OK {
		return e
	}
	if !isTime(now) {
		return api.ErrArg
	}
	return api.OK
}

// checkClaim returns the error with which a clause has no claim.
func checkClaim(c api.Contract, l []api.Fact, now, clause int) api.Errno {
	if e := checkMoment(c, l, now); e != api.OK {
		return e
	}
	if clause < 0 || clause >= len(c.Clauses) {
		return api.ErrNone
	}
	return api.OK
}

// checkBetween returns the error with which a clause has no bounds.
func checkBetween(c api.Contract, l, contested []api.Fact, now, clause int) api.Errno {
	if e := checkClaim(c, l, now, clause); e != api.OK {
		return e
	}
	if e := CheckRecord(contested); e != api.OK {
		return e
	}
	if len(contested) > api.MaxContested || len(l)+len(contested) > api.MaxFacts {
		return api.ErrLimit
	}
	return api.OK
}

// isName tells whether a text is a name.
func isName(text string) bool {
	if text == "" || len(text) > api.MaxName {
		return false
	}
	for i := range len(text) {
		letter := text[i] >= 'a' && text[i] <= 'z'
		other := text[i] >= '0' && text[i] <= '9' || text[i] == '-'
		if !letter && (i == 0 || !other) {
			return false
		}
	}
	return true
}

// isTime tells whether a number is a time.
func isTime(n int) bool {
	return n >= 0 && n <= api.MaxTime
}

// isAmount tells whether a number is one that a record or a contract may have.
func isAmount(n int64) bool {
	return n >= -api.MaxAmount && n <= api.MaxAmount
}
