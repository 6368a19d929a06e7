package claims_test

import (
	"fmt"
	"math/rand"
	"reflect"
	"slices"
	"strings"
	"testing"

	"underpin/api"
	"underpin/claims"
)

// wholeText is the text of the contract that has all that one may have: 10 lines.
const wholeText = `base clay 10
base sum -5
price clay 3
price hour 200
clause ground 60 50 1000
when (< (base clay) (sum met clay))
pay (* (price clay) (- (sum met clay) (base clay)))
clause standstill 0 100 5000
when (and (not (= (now) 0)) (<= 2 (count stop rig)))
pay (+ (* (price hour) (count stop rig)) (base sum))
`

// TestPrintContract: P9.3.
func TestPrintContract(t *testing.T) {
	text, e := claims.PrintContract(wholeContract())
	equal(t, "the whole one", []any{text, e}, []any{wholeText, api.OK})
	text, e = claims.PrintContract(api.Contract{})
	equal(t, "nothing", []any{text, e}, []any{"", api.OK})
	c := api.Contract{Bases: []api.Base{{Name: "a", Number: -api.MaxAmount}}}
	text, e = claims.PrintContract(c)
	equal(t, "a baseline alone", []any{text, e}, []any{"base a -1000000000000\n", api.OK})
	c.Prices, c.Bases = c.Bases, nil
	text, e = claims.PrintContract(c)
	equal(t, "a price alone", []any{text, e}, []any{"price a -1000000000000\n", api.OK})
}

// TestPrintContractLimit: P9.3 and R7, a text has MaxText bytes at most.
func TestPrintContractLimit(t *testing.T) {
	long := func(bytes int) api.Expr { // a sum whose written form has so many bytes
		x := do("+", slices.Repeat([]api.Expr{num(1)}, (bytes-3)/2)...)
		if bytes%2 == 0 {
			x.Args[0] = num(10)
		}
		return x
	}
	var c api.Contract
	for i := range 17 {
		c.Clauses = append(c.Clauses, api.Clause{Name: fmt.Sprintf("c%02d", i), When: do("<", num(1), long(1900)), Pay: long(1900)})
	}
	text, e := claims.PrintContract(c)
	equal(t, "a text", e, api.OK)
	more := api.MaxText - len(text)
	if more < 100 || more > 1900 {
		t.Fatal("so many bytes are left:", more)
	}
	c.Clauses = append(c.Clauses, api.Clause{Name: "rest", When: do("<", num(1), num(2))})
	c.Clauses[17].Pay = long(more - len("clause rest 0 0 0\nwhen (< 1 2)\npay \n"))
	text, e = claims.PrintContract(c)
	equal(t, "the longest text", []any{len(text), e}, []any{api.MaxText, api.OK})
	d, line, e := claims.ParseContract(text)
	equal(t, "the longest text is read", []any{len(d.Clauses), line, e}, []any{18, 0, api.OK})
	c.Clauses[17].Share = 10
	text, e = claims.PrintContract(c)
	equal(t, "a byte more", []any{text, e}, []any{"", api.ErrLimit})
	d, line, e = claims.ParseContract(strings.Repeat("\n", api.MaxText+1))
	alone(t, "a text that is too long", e, d, line)
	equal(t, "a text that is too long", e, api.ErrLimit)
	_, line, e = claims.ParseContract(strings.Repeat("\n", api.MaxText))
	equal(t, "a text as long as can be", []any{line, e}, []any{1, api.ErrForm})
}

// lineCases are texts behind the first lines of the whole contract, with the line that is wrong.
var lineCases = []struct {
	ahead int // so many lines
	text  string
	line  int
	want  api.Errno
}{
	{0, "", 0, api.OK},
	{0, "\n", 1, api.ErrForm},
	{0, " ", 1, api.ErrForm},
	{0, "\n" + wholeText, 1, api.ErrForm},
	{10, "\n", 11, api.ErrForm},
	{10, "\n\n", 11, api.ErrForm},
	{10, " ", 11, api.ErrForm},
	{4, "\n", 5, api.ErrForm},
	{0, "base a 1", 0, api.OK},
	{0, "base a 1\n", 0, api.OK},
	{0, "Base a 1", 1, api.ErrForm},
	{0, "basea 1", 1, api.ErrForm},
	{0, "base\ta 1", 1, api.ErrForm},
	{0, " base a 1", 1, api.ErrForm},
	{0, "base  a 1", 1, api.ErrForm},
	{0, "base a  1", 1, api.ErrForm},
	{0, "base a 1 ", 1, api.ErrForm},
	{0, "base a 1\r", 1, api.ErrForm},
	{0, "base a 1 2", 1, api.ErrForm},
	{0, "base a", 1, api.ErrForm},
	{0, "base a ", 1, api.ErrForm},
	{0, "base  1", 1, api.ErrForm},
	{0, "base 1", 1, api.ErrForm},
	{0, "base", 1, api.ErrForm},
	{0, "base ", 1, api.ErrForm},
	{0, "base 1 1", 0, api.ErrName},
	{0, "base \t\r\xff\x00 1", 0, api.ErrName},
	{0, "base base 1", 0, api.OK},
	{0, "base a x", 1, api.ErrForm},
	{0, "base a +1", 1, api.ErrForm},
	{0, "base a -0", 1, api.ErrForm},
	{0, "base a 01", 1, api.ErrForm},
	{0, "base a 1.0", 1, api.ErrForm},
	{0, "base a -", 1, api.ErrForm},
	{0, "base a 1000000000001", 0, api.ErrArg},
	{0, "base a -9999999999999", 0, api.ErrArg},
	{0, "base a 10000000000000", 1, api.ErrForm},
	{0, "base a -10000000000000", 1, api.ErrForm},
	{0, "base a 1\nbase a 1", 0, api.ErrTwice},
	{0, strings.Repeat("base a 1\n", 65), 0, api.ErrLimit},
	{0, "price a 1", 0, api.OK},
	{0, "price a 1\nprice a 1", 0, api.ErrTwice},
	{0, strings.Repeat("price a 1\n", 65), 0, api.ErrLimit},
	{0, "price a 1\nbase a 1", 2, api.ErrForm},
	{0, "price a 1\nbase", 2, api.ErrForm},
	{0, "price a", 1, api.ErrForm},
	{0, "price a 1 1", 1, api.ErrForm},
	{0, "price a x", 1, api.ErrForm},
	{0, "price  1", 1, api.ErrForm},
	{0, "Price a 1", 1, api.ErrForm},
	{7, "base b 1", 8, api.ErrForm},
	{7, "price b 1", 8, api.ErrForm},
	{5, "base b 1", 6, api.ErrForm},
	{5, "price b 1", 6, api.ErrForm},
	{6, "base b 1", 7, api.ErrForm},
	{6, "price b 1", 7, api.ErrForm},
	{0, "when (= 1 1)", 1, api.ErrForm},
	{0, "pay 1", 1, api.ErrForm},
	{4, "when (= 1 1)", 5, api.ErrForm},
	{4, "pay 1", 5, api.ErrForm},
	{5, "pay 1", 6, api.ErrForm},
	{5, "clause b 1 1 1\nwhen (= 1 1)\npay 1", 6, api.ErrForm},
	{6, "clause b 1 1 1\nwhen (= 1 1)\npay 1", 7, api.ErrForm},
	{6, "when (= 1 1)", 7, api.ErrForm},
	{7, "when (= 1 1)", 8, api.ErrForm},
	{7, "pay 1", 8, api.ErrForm},
	{5, "\n", 6, api.ErrForm},
	{6, "\n", 7, api.ErrForm},
	{5, "", 5, api.ErrForm},
	{6, "", 6, api.ErrForm},
	{8, "", 8, api.ErrForm},
	{9, "", 9, api.ErrForm},
	{4, "clause b 1 1 1", 5, api.ErrForm},
	{4, "clause b 1 1 1\nwhen (= 1 1)", 6, api.ErrForm},
	{4, "clause b 1 1 1\nwhen (= 1 1)\npay 1", 0, api.OK},
	{4, "clause b 1 1 1\nwhen (= 1 1)\npay 1\n\n", 8, api.ErrForm},
	{4, "Clause b 1 1 1\nwhen (= 1 1)\npay 1", 5, api.ErrForm},
	{4, "clause\nwhen (= 1 1)\npay 1", 5, api.ErrForm},
	{4, "clause b 1 1\nwhen (= 1 1)\npay 1", 5, api.ErrForm},
	{4, "clause b 1 1 1 1\nwhen (= 1 1)\npay 1", 5, api.ErrForm},
	{4, "clause 1 1 1\nwhen (= 1 1)\npay 1", 5, api.ErrForm},
	{4, "clause  1 1 1\nwhen (= 1 1)\npay 1", 5, api.ErrForm},
	{4, "clause b 1 1 1 \nwhen (= 1 1)\npay 1", 5, api.ErrForm},
	{4, "clause b x 1 1\nwhen (= 1 1)\npay 1", 5, api.ErrForm},
	{4, "clause b 1 x 1\nwhen (= 1 1)\npay 1", 5, api.ErrForm},
	{4, "clause b 1 1 x\nwhen (= 1 1)\npay 1", 5, api.ErrForm},
	{4, "clause b 10000000000000 1 1\nwhen (= 1 1)\npay 1", 5, api.ErrForm},
	{4, "clause b 9999999999999 1 1\nwhen (= 1 1)\npay 1", 0, api.ErrArg},
	{4, "clause b -1 1 1\nwhen (= 1 1)\npay 1", 0, api.ErrArg},
	{4, "clause b 1 9999999999999 1\nwhen (= 1 1)\npay 1", 0, api.ErrArg},
	{4, "clause b 1 1 9999999999999\nwhen (= 1 1)\npay 1", 0, api.ErrArg},
	{4, "clause \t 1 1 1\nwhen (= 1 1)\npay 1", 0, api.ErrName},
	{7, "clause ground 1 1 1\nwhen (= 1 1)\npay 1", 0, api.ErrTwice},
	{5, "when", 6, api.ErrForm},
	{5, "when ", 6, api.ErrForm},
	{5, "when(= 1 1)\npay 1", 6, api.ErrForm},
	{5, "When (= 1 1)\npay 1", 6, api.ErrForm},
	{5, "when (= 1 1) 1\npay 1", 6, api.ErrForm},
	{5, "when (= 1 1)\r\npay 1", 6, api.ErrForm},
	{5, "when\t(= 1 1)\npay 1", 6, api.ErrForm},
	{5, "when (=\npay 1", 6, api.ErrForm},
	{5, "when  ( =  1 1)  \npay   1  ", 0, api.OK},
	{5, "when (=(now)1)\npay(now)", 7, api.ErrForm},
	{5, "when (=(now)1)\npay (*(now)2)", 0, api.OK},
	{5, "when 1\npay 1", 0, api.ErrArg},
	{5, "when (= 1 1)\npay (= 1 1)", 0, api.ErrArg},
	{5, "when (= 1 (= 1 1))\npay 1", 6, api.ErrForm},
	{5, "when (= 1 1000000000001)\npay 1", 6, api.ErrForm},
	{5, "when (= 1 " + strings.Repeat(" ", 1994) + "1)\npay 1", 6, api.ErrForm},
	{5, "when (= 1 " + strings.Repeat(" ", 1993) + "1)\npay 1", 0, api.OK},
	{5, "when (= 1 1)\npay (+ 1)", 7, api.ErrForm},
	{5, "when (= 1 1)\npay", 7, api.ErrForm},
	{5, "when (= 1 1)\npay ", 7, api.ErrForm},
	{5, "when (= 1 1)\nPay 1", 7, api.ErrForm},
	{5, "when (= 1 1)\npay (base none)", 0, api.ErrNone},
	{5, "when (= 1 (price sum))\npay 1", 0, api.ErrNone},
	{4, strings.Repeat("clause b 1 1 1\nwhen (= 1 1)\npay 1\n", 33), 0, api.ErrLimit},
	{10, "x", 11, api.ErrForm},
	{10, "end", 11, api.ErrForm},
	{10, "\xff", 11, api.ErrForm},
	{10, "clause b 1 1 1", 11, api.ErrForm},
	{1, "base clay 1\nx", 3, api.ErrForm},
}

// TestParseContract: P9.3.
func TestParseContract(t *testing.T) {
	ahead := strings.SplitAfter(wholeText, "\n")
	for _, x := range lineCases {
		text := strings.Join(ahead[:x.ahead], "") + x.text
		c, line, e := claims.ParseContract(text)
		alone(t, x.text, e, c)
		equal(t, fmt.Sprintf("%d lines, and %.80q", x.ahead, x.text), []any{line, e}, []any{x.line, x.want})
	}
	c, line, e := claims.ParseContract(wholeText)
	equal(t, "the whole one", []any{line, e}, []any{0, api.OK})
	equal(t, "the whole one", c, wholeContract())
	c, line, e = claims.ParseContract(strings.TrimSuffix(wholeText, "\n"))
	equal(t, "without the last line feed", []any{said(c), line, e}, []any{said(wholeContract()), 0, api.OK})
	c, line, e = claims.ParseContract("")
	equal(t, "nothing", []any{said(c), line, e}, []any{said(api.Contract{}), 0, api.OK})
}

// TestParseContractFields: P9.3, each number and each formula gets to its place.
func TestParseContractFields(t *testing.T) {
	c, line, e := claims.ParseContract("clause a 1 2 3\nwhen (< 4 5)\npay 6\nclause b 100000 100 1000000000000\nwhen (= 1 2)\npay -7\n")
	equal(t, "no error", []any{line, e}, []any{0, api.OK})
	equal(t, "two clauses", c.Clauses, []api.Clause{
		{Name: "a", Notice: 1, Share: 2, Cap: 3, When: do("<", num(4), num(5)), Pay: num(6)},
		{Name: "b", Notice: api.MaxTime, Share: 100, Cap: api.MaxAmount, When: do("=", num(1), num(2)), Pay: num(-7)},
	})
}

// TestContractsThereAndBack: P9.4, contracts, and records, are read as they were written.
func TestContractsThereAndBack(t *testing.T) {
	r := rand.New(rand.NewSource(321))
	for range 1000 {
		c := randomContract(r)
		text, e := claims.PrintContract(c)
		equal(t, "PrintContract", e, api.OK)
		d, line, e := claims.ParseContract(text)
		equal(t, text, []any{line, e}, []any{0, api.OK})
		if !reflect.DeepEqual(c, d) {
			t.Fatal(text, said(c), said(d))
		}
		l := randomRecord(r, 20, api.MaxTime)
		text, e = claims.Write(l)
		equal(t, "Write", e, api.OK)
		k, line, e := claims.Read(text)
		equal(t, text, []any{line, e}, []any{0, api.OK})
		equal(t, text, k, l)
	}
	c := largest()
	c.Clauses = c.Clauses[:20]
	text, e := claims.PrintContract(c)
	equal(t, "a large one", e, api.OK)
	d, line, e := claims.ParseContract(text)
	equal(t, "a large one", []any{d, line, e}, []any{c, 0, api.OK})
}
