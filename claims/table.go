package claims

import "underpin/api"

// valueType is the type of a formula.
type valueType uint8

// Types of formulas.
const (
	numeric valueType = iota
	logical
)

// call is what the table of formulas says of a name that has formulas as arguments.
type call struct {
	least, most int // arguments
	first, rest valueType
	gives       valueType
	reckon      func(m *moment, args []formula) int64
}

// takes returns the type that an argument must have.
func (c call) takes(arg int) valueType {
	if arg == 0 {
		return c.first
	}
	return c.rest
}

// question is what the table of formulas says of a name that has words.
type question struct {
	words  int
	moves  bool // whether the answer changes while the facts stay the same
	answer func(m *moment, words []string) int64
}

// table is the table of formulas.
type table struct {
	calls     map[string]call
	questions map[string]question
}

// newTable returns the table of formulas.
func newTable() table {
	return table{calls(), questions()}
}

// calls returns what is said of names that have formulas as arguments.
func calls() map[string]call {
	const many = api.MaxFormula // more do not stand in a text
	return map[string]call{
		"+":   {2, many, numeric, numeric, numeric, stepwise(func(a, b int64) int64 { return held(a + b) })},
		"-":   {2, many, numeric, numeric, numeric, stepwise(func(a, b int64) int64 { return held(a - b) })},
		"*":   {2, many, numeric, numeric, numeric, stepwise(times)},
		"min": {2, many, numeric, numeric, numeric, stepwise(func(a, b int64) int64 { return min(a, b) })},
		"max": {2, many, numeric, numeric, numeric, stepwise(func(a, b int64) int64 { return max(a, b) })},
		"/":   {2, 2, numeric, numeric, numeric, stepwise(quotient)},
		"<":   {2, 2, numeric, numeric, logical, stepwise(func(a, b int64) int64 { return asNumber(a < b) })},
		"<=":  {2, 2, numeric, numeric, logical, stepwise(func(a, b int64) int64 { return asNumber(a <= b) })},
		"=":   {2, 2, numeric, numeric, logical, stepwise(func(a, b int64) int64 { return asNumber(a == b) })},
		"and": {2, many, logical, logical, logical, stepwise(func(a, b int64) int64 { return a & b })},
		"or":  {2, many, logical, logical, logical, stepwise(func(a, b int64) int64 { return a | b })},
		"not": {1, 1, logical, logical, logical, func(m *moment, args []formula) int64 { return 1 - args[0].value(m) }},
		"if":  {3, 3, logical, numeric, numeric, choose},
	}
}

// questions returns what is said of names that have words.
func questions() map[string]question {
	return map[string]question{
		"sum":    {2, false, sum},
		"count":  {2, false, count},
		"first":  {2, false, first},
		"last":   {2, false, func(m *moment, words []string) int64 { return int64(m.last(words, api.Fact{Time: -1}).Time) }},
		"latest": {2, false, func(m *moment, words []string) int64 { return m.last(words, api.Fact{}).Number }},
		"base":   {1, false, func(m *moment, words []string) int64 { return named(m.c.Bases, words[0]) }},
		"price":  {1, false, func(m *moment, words []string) int64 { return named(m.c.Prices, words[0]) }},
		"now":    {0, true, func(m *moment, _ []string) int64 { return int64(m.now) }},
	}
}

// typeOf returns the type of a formula that is of the form.
func (t table) typeOf(x api.Expr) valueType {
	if x.Kind == api.ExCall {
		return t.calls[x.Name].gives
	}
	return numeric
}

// stepwise returns what reckons with arguments from the left, two by two.
func stepwise(step func(a, b int64) int64) func(m *moment, args []formula) int64 {
	return func(m *moment, args []formula) int64 {
		out := args[0].value(m)
		for _, arg := range args[1:] {
			out = step(out, arg.value(m))
		}
		return out
	}
}

// choose returns the value of the second argument if the first one is true, otherwise that of the third one.
func choose(m *moment, args []formula) int64 {
	if args[0].value(m) != 0 {
		return args[1].value(m)
	}
	return args[2].value(m)
}

// held returns a number, or the bound that it is beyond.
func held(n int64) int64 {
	return min(max(n, -api.MaxReckon), api.MaxReckon)
}

// times multiplies two numbers that are held, whose product may be too long for a machine word.
func times(a, b int64) int64 {
	if a == 0 || size(b) <= api.MaxReckon/size(a) {
		return a * b
	}
	if (a < 0) != (b < 0) {
		return -api.MaxReckon
	}
	return api.MaxReckon
}

// size returns how far a number is from 0.
func size(n int64) int64 {
	return max(n, -n)
}

// quotient returns a quotient, rounded down; 0 if there is none.
func quotient(a, b int64) int64 {
	if b == 0 {
		return 0
	}
	q := a / b
	if q*b != a && (a < 0) != (b < 0) {
		q--
	}
	return q
}

// asNumber returns the value of a truth.
func asNumber(is bool) int64 {
	if is {
		return 1
	}
	return 0
}

// last returns the last fact of the kind and the item that two words say, or what stands for none.
func (m *moment) last(words []string, none api.Fact) api.Fact {
	found := none
	for f := range m.facts(words) {
		found = f
	}
	return found
}

func sum(m *moment, words []string) int64 {
	total := int64(0)
	for f := range m.facts(words) {
		total = held(total + f.Number)
	}
	return total
}

func count(m *moment, words []string) int64 {
	many := int64(0)
	for range m.facts(words) {
		many++
	}
	return many
}

func first(m *moment, words []string) int64 {
	for f := range m.facts(words) {
		return int64(f.Time)
	}
	return -1
}

// named returns the number of the baseline, or the price, with a name.
func named(l []api.Base, name string) int64 {
	for _, b := range l {
		if b.Name == name {
			return b.Number
		}
	}
	return 0
}
