package claims

import (
	"iter"
	"strconv"
	"strings"

	"underpin/api"
)

// Parse returns the formula of a text, or the place where it goes wrong (P9.2).
func Parse(text string) (x api.Expr, at int, e api.Errno) {
	if len(text) > api.MaxFormula {
		return api.Expr{}, 0, api.ErrLimit
	}
	defer func() {
		if w, left := recover().(wrong); left {
			x, at, e = api.Expr{}, w.at, w.e
		}
	}()
	r := reader{text: text, table: newTable()}
	x = r.formula()
	r.must(r.part() == "")
	if e := r.table.check(x); e != api.OK {
		return api.Expr{}, 0, e
	}
	return x, 0, api.OK
}

// reader reads the parts of a formula.
type reader struct {
	text  string
	at    int // up to where it is read
	table table
}

// part goes to the next part and returns it; "" behind the last one.
func (r *reader) part() string {
	for r.at < len(r.text) && r.text[r.at] == ' ' {
		r.at++
	}
	rest := r.text[r.at:]
	end := strings.IndexAny(rest, "() ")
	switch {
	case end < 0:
		return rest
	case end == 0:
		return rest[:1]
	}
	return rest[:end]
}

// must leaves the text at the next part, unless that goes on with what is ahead of it.
func (r *reader) must(right bool) {
	must(right, r.at)
}

// pass goes behind the next part, which is right.
func (r *reader) pass() {
	r.at += len(r.part())
}

// formula reads a formula.
func (r *reader) formula() api.Expr {
	if r.part() != "(" {
		n, is := numberOf(r.part())
		r.must(is)
		r.pass()
		return api.Expr{Kind: api.ExNumber, Number: n}
	}
	r.pass()
	x := api.Expr{Name: r.part()}
	c, isCall := r.table.calls[x.Name]
	q, isQuestion := r.table.questions[x.Name]
	r.must(isCall || isQuestion)
	r.pass()
	if isCall {
		x.Kind, x.Args = api.ExCall, r.arguments(c)
	} else {
		x.Kind, x.Words = api.ExAsk, r.words(q)
	}
	r.must(r.part() == ")")
	r.pass()
	return x
}

// arguments reads the arguments of a call.
func (r *reader) arguments(c call) []api.Expr {
	var out []api.Expr
	for len(out) < c.least || len(out) < c.most && r.part() != ")" {
		out = append(out, r.formula())
	}
	return out
}

// words reads the words of a question.
func (r *reader) words(q question) []string {
	var out []string
	for range q.words {
		word := r.part()
		r.must(isName(word))
		r.pass()
		out = append(out, word)
	}
	return out
}

// check returns the error of a formula that is of the form.
func (t table) check(x api.Expr) api.Errno {
	depth := 0
	for at, part := range parts(x) {
		depth = max(depth, at)
		if part.Kind == api.ExNumber && !isAmount(part.Number) {
			return api.ErrArg
		}
	}
	if depth > api.MaxNest {
		return api.ErrLimit
	}
	for _, part := range parts(x) {
		for i, arg := range part.Args {
			if t.typeOf(arg) != t.calls[part.Name].takes(i) {
				return api.ErrArg
			}
		}
	}
	return api.OK
}

// parts tells a formula and all that it is made of, each with its depth, from 1 on.
func parts(x api.Expr) iter.Seq2[int, api.Expr] {
	return func(yield func(int, api.Expr) bool) {
		tell(x, 1, yield)
	}
}

// tell tells a formula at a depth and all that it is made of. It returns false if it was told to end.
func tell(x api.Expr, depth int, yield func(int, api.Expr) bool) bool {
	if !yield(depth, x) {
		return false
	}
	for _, arg := range x.Args {
		if !tell(arg, depth+1, yield) {
			return false
		}
	}
	return true
}

// Print returns the written form of a formula (P9.2).
func Print(x api.Expr) (string, api.Errno) {
	text := writtenForm(x)
	if y, _, e := Parse(text); e != api.OK || !Same(x, y) {
		return "", api.ErrArg
	}
	return text, api.OK
}

// writtenForm returns the written form of a formula. What is no formula has a text, too, which is not read as it.
func writtenForm(x api.Expr) string {
	return string(appendForm(nil, x))
}

// appendForm appends the written form of a formula. What is longer than all formulas need not be complete: it may go on
// without end, in lists that stand in themselves.
func appendForm(text []byte, x api.Expr) []byte {
	if x.Kind == api.ExNumber {
		return strconv.AppendInt(text, x.Number, 10)
	}
	text = append(append(text, '('), x.Name...)
	for _, arg := range x.Args {
		if len(text) > api.MaxFormula {
			break
		}
		text = appendForm(append(text, ' '), arg)
	}
	for _, word := range x.Words {
		if len(text) > api.MaxFormula {
			break
		}
		text = append(append(text, ' '), word...)
	}
	return append(text, ')')
}
