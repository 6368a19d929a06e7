package claims

import (
	"iter"

	"underpin/api"
)

// moment is what formulas are asked at: a contract, a time, and the facts up to it.
type moment struct {
	c   api.Contract
	l   []api.Fact
	now int
}

// momentAt returns a time with the facts up to it.
func momentAt(c api.Contract, l []api.Fact, now int) *moment {
	return &moment{c, upTo(l, now), now}
}

// upTo returns the facts of a record up to a time.
func upTo(l []api.Fact, now int) []api.Fact {
	end := len(l)
	for end > 0 && l[end-1].Time > now {
		end--
	}
	return l[:end]
}

// facts tells the facts of the kind and the item that two words say.
func (m *moment) facts(words []string) iter.Seq[api.Fact] {
	return func(yield func(api.Fact) bool) {
		for _, f := range m.l {
			if f.Kind == words[0] && f.Item == words[1] && !yield(f) {
				return
			}
		}
	}
}

// formula is a formula that Print accepts. The value of a truth is 1 or 0.
type formula interface {
	value(m *moment) int64
	// fixed returns a formula with the same values, as long as the facts stay the same
	fixed(m *moment) formula
}

// formula returns a formula that Print accepts.
func (t table) formula(x api.Expr) formula {
	switch x.Kind {
	case api.ExCall:
		c := called{call: t.calls[x.Name]}
		for _, arg := range x.Args {
			c.args = append(c.args, t.formula(arg))
		}
		return c
	case api.ExAsk:
		return asked{t.questions[x.Name], x.Words}
	}
	return constant(x.Number)
}

// constant is a number.
type constant int64

func (c constant) value(*moment) int64   { return int64(c) }
func (c constant) fixed(*moment) formula { return c }

// called is a call with its arguments.
type called struct {
	call call
	args []formula
}

func (c called) value(m *moment) int64 { return c.call.reckon(m, c.args) }

func (c called) fixed(m *moment) formula {
	out := called{call: c.call}
	moves := false
	for _, arg := range c.args {
		arg = arg.fixed(m)
		_, still := arg.(constant)
		moves = moves || !still
		out.args = append(out.args, arg)
	}
	if moves {
		return out
	}
	return constant(out.value(m))
}

// asked is a question with its words.
type asked struct {
	question question
	words    []string
}

func (a asked) value(m *moment) int64 { return a.question.answer(m, a.words) }

func (a asked) fixed(m *moment) formula {
	if a.question.moves {
		return a
	}
	return constant(a.value(m))
}
