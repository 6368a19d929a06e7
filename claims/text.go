package claims

import (
	"iter"
	"slices"
	"strconv"
	"strings"

	"underpin/api"
)

// maxDigits is how many digits a number of a text has at most.
const maxDigits = 13

// wrong is what a text that goes wrong is left with: the line or the place, and the error.
type wrong struct {
	at int
	e  api.Errno
}

// must leaves a text, unless it is of its form so far.
func must(right bool, at int) {
	if !right {
		panic(wrong{at, api.ErrForm})
	}
}

// numberOf returns the number that a word says, if it says one.
func numberOf(word string) (int64, bool) {
	n, err := strconv.ParseInt(word, 10, 64)
	is := err == nil && strconv.FormatInt(n, 10) == word && len(strings.TrimPrefix(word, "-")) <= maxDigits
	return n, is
}

// lines tells the lines of a text with their numbers, from 1 on.
func lines(text string) iter.Seq2[int, string] {
	return func(yield func(int, string) bool) {
		rest := text
		for number := 1; rest != ""; number++ {
			var line string
			line, rest, _ = strings.Cut(rest, "\n")
			if !yield(number, line) {
				return
			}
		}
	}
}

// Write returns the text of a record (P9.1).
func Write(l []api.Fact) (string, api.Errno) {
	if e := CheckRecord(l); e != api.OK {
		return "", e
	}
	var text strings.Builder
	for _, f := range l {
		text.WriteString(textOf(f))
	}
	if text.Len() > api.MaxText { // as the limits are, no valid record is so long
		return "", api.ErrLimit
	}
	return text.String(), api.OK
}

// Read returns the record of a text, or the line that is wrong (P9.1).
func Read(text string) (l []api.Fact, line int, e api.Errno) {
	if len(text) > api.MaxText {
		return nil, 0, api.ErrLimit
	}
	defer func() {
		if w, left := recover().(wrong); left {
			l, line, e = nil, w.at, w.e
		}
	}()
	for number, line := range lines(text) {
		l = append(l, factOf(line, number))
	}
	if e := CheckRecord(l); e != api.OK {
		return nil, 0, e
	}
	return l, 0, api.OK
}

// factOf returns the fact that a line says.
func factOf(line string, number int) api.Fact {
	words := strings.Split(line, " ")
	must(len(words) == 5 && !slices.Contains(words, ""), number)
	time, isTime := numberOf(words[0])
	n, isNumber := numberOf(words[4])
	must(isTime && isNumber, number)
	return api.Fact{Time: int(time), Kind: words[1], Item: words[2], By: words[3], Number: n}
}

// PrintContract returns the text of a contract (P9.3).
func PrintContract(c api.Contract) (string, api.Errno) {
	if e := Check(c); e != api.OK {
		return "", e
	}
	var text strings.Builder
	line := func(words ...string) {
		text.WriteString(strings.Join(words, " ") + "\n")
	}
	number := func(n int64) string { return strconv.FormatInt(n, 10) }
	for _, b := range c.Bases {
		line("base", b.Name, number(b.Number))
	}
	for _, p := range c.Prices {
		line("price", p.Name, number(p.Number))
	}
	for _, x := range c.Clauses {
		line("clause", x.Name, strconv.Itoa(x.Notice), strconv.Itoa(x.Share), number(x.Cap))
		line("when", writtenForm(x.When))
		line("pay", writtenForm(x.Pay))
	}
	if text.Len() > api.MaxText {
		return "", api.ErrLimit
	}
	return text.String(), api.OK
}

// ParseContract returns the contract of a text, or the line that is wrong (P9.3).
func ParseContract(text string) (c api.Contract, line int, e api.Errno) {
	if len(text) > api.MaxText {
		return api.Contract{}, 0, api.ErrLimit
	}
	defer func() {
		if w, left := recover().(wrong); left {
			c, line, e = api.Contract{}, w.at, w.e
		}
	}()
	var d draft
	for number, line := range lines(text) {
		d.number = number
		d.read(line)
	}
	must(d.lacks == 0, d.number)
	if e := Check(d.c); e != api.OK {
		return api.Contract{}, 0, e
	}
	return d.c, 0, api.OK
}

// draft is a contract that is read.
type draft struct {
	c      api.Contract
	number int // of the line that is read
	lacks  int // how many lines the last clause lacks
}

// read reads a line.
func (d *draft) read(line string) {
	kind, rest, _ := strings.Cut(line, " ")
	words := strings.Split(rest, " ")
	switch kind {
	case "base":
		d.must(len(d.c.Prices) == 0 && len(d.c.Clauses) == 0)
		d.c.Bases = append(d.c.Bases, d.base(words))
	case "price":
		d.must(len(d.c.Clauses) == 0)
		d.c.Prices = append(d.c.Prices, d.base(words))
	case "clause":
		d.must(d.lacks == 0)
		d.c.Clauses = append(d.c.Clauses, d.clause(words))
		d.lacks = 2
	case "when":
		d.must(d.lacks == 2)
		d.last().When = d.formula(rest)
		d.lacks = 1
	case "pay":
		d.must(d.lacks == 1)
		d.last().Pay = d.formula(rest)
		d.lacks = 0
	default:
		d.must(false)
	}
}

// must leaves the text, unless the line is right so far.
func (d *draft) must(right bool) {
	must(right, d.number)
}

// last returns the last clause.
func (d *draft) last() *api.Clause {
	return &d.c.Clauses[len(d.c.Clauses)-1]
}

// base returns the baseline, or the price, that words say.
func (d *draft) base(words []string) api.Base {
	d.must(len(words) == 2 && words[0] != "")
	return api.Base{Name: words[0], Number: d.numbers(words[1:])[0]}
}

// clause returns the clause that words begin.
func (d *draft) clause(words []string) api.Clause {
	d.must(len(words) == 4 && words[0] != "")
	n := d.numbers(words[1:])
	return api.Clause{Name: words[0], Notice: int(n[0]), Share: int(n[1]), Cap: n[2]}
}

// numbers returns the numbers that words say.
func (d *draft) numbers(words []string) []int64 {
	var out []int64
	for _, word := range words {
		n, is := numberOf(word)
		d.must(is)
		out = append(out, n)
	}
	return out
}

// formula returns the formula that the rest of a line says.
func (d *draft) formula(rest string) api.Expr {
	x, _, e := Parse(rest)
	d.must(e == api.OK)
	return x
}
