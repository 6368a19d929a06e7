package claims_test

import (
	"math/rand"
	"strconv"
	"strings"
	"testing"

	"underpin/api"
	"underpin/claims"
)

// siteRecord is a record with facts of several subjects.
const siteRecord = `0 met clay ann 4
	7 met clay ann -1
	7 met rock bob 100
	7 dug clay ann 50
	7 met clay bob 6
	12 met clay ann 2
	20 met fill ann -3`

// valueCases are values by siteRecord at the time 12 and the contract wholeContract.
var valueCases = []struct {
	text string
	want int64
}{
	{"-5", -5},
	{"(+ 1 2)", 3}, {"(+ 1 2 -4 10)", 9},
	{"(- 1 2)", -1}, {"(- 10 2 3)", 5}, {"(- 10 (- 2 3))", 11},
	{"(* 2 -3)", -6}, {"(* 2 3 4)", 24}, {"(* 0 -1000000000000)", 0}, {"(* -1000000000000 0)", 0}, {"(* -2 -3)", 6},
	{"(min 3 1 2)", 1}, {"(min -1 1)", -1}, {"(max 1 3 2)", 3}, {"(max -1 -2)", -1},
	{"(/ 7 2)", 3}, {"(/ -7 2)", -4}, {"(/ 7 -2)", -4}, {"(/ -7 -2)", 3}, {"(/ 6 -2)", -3}, {"(/ -6 2)", -3}, {"(/ 7 0)", 0}, {"(/ 0 7)", 0},
	{"(/ 0 -7)", 0}, {"(/ 1 -1000000000000)", -1}, {"(/ -1 -1000000000000)", 0}, {"(/ 0 0)", 0},
	{"(< 1 2)", 1}, {"(< 2 2)", 0}, {"(< 3 2)", 0}, {"(<= 1 2)", 1}, {"(<= 2 2)", 1}, {"(<= 3 2)", 0}, {"(= 2 2)", 1}, {"(= 1 2)", 0}, {"(= 2 1)", 0},
	{"(and (= 1 1) (= 2 2))", 1}, {"(and (= 1 1) (= 2 2) (= 1 2))", 0}, {"(and (= 1 2) (= 1 1))", 0}, {"(and (= 1 2) (= 1 2))", 0},
	{"(or (= 1 2) (= 1 2) (= 1 1))", 1}, {"(or (= 1 1) (= 1 2))", 1}, {"(or (= 1 2) (= 2 1))", 0}, {"(or (= 1 1) (= 1 1))", 1},
	{"(not (= 1 1))", 0}, {"(not (= 1 2))", 1},
	{"(if (= 1 1) 7 8)", 7}, {"(if (= 1 2) 7 8)", 8}, {"(if (= 1 2) (/ 1 0) (now))", 12},
	{"(sum met clay)", 11}, {"(sum met rock)", 100}, {"(sum dug clay)", 50}, {"(sum dug rock)", 0}, {"(sum clay met)", 0}, {"(sum met fill)", 0},
	{"(count met clay)", 4}, {"(count met rock)", 1}, {"(count met fill)", 0},
	{"(first met clay)", 0}, {"(first met rock)", 7}, {"(first met fill)", -1}, {"(first dug clay)", 7},
	{"(last met clay)", 12}, {"(last met rock)", 7}, {"(last met fill)", -1},
	{"(latest met clay)", 2}, {"(latest met rock)", 100}, {"(latest met fill)", 0}, {"(latest dug clay)", 50},
	{"(base clay)", 10}, {"(base sum)", -5}, {"(price clay)", 3}, {"(price hour)", 200},
	{"(now)", 12}, {"(- (now) (last met rock))", 5},
	{"(* 1000000000000 1000)", api.MaxReckon},
	{"(* 1000000000000 1001)", api.MaxReckon},
	{"(* 1000000000000 1000000000000)", api.MaxReckon},
	{"(* -1000000000000 1000000000000)", -api.MaxReckon},
	{"(* 1000000000000 -1001)", -api.MaxReckon},
	{"(* -1000000000000 -1001)", api.MaxReckon},
	{"(* 1000000000000 999)", 999000000000000},
	{"(* 33333333 30000000)", 33333333 * 30000000},
	{"(* 31622777 31622777)", api.MaxReckon},
	{"(* 31622776 31622777)", 31622776 * 31622777},
	{"(* -31622777 31622777)", -api.MaxReckon},
	{"(* 1000000000000 1000000000000 -1)", -api.MaxReckon},
	{"(* 1000000000000 1000000000000 0)", 0},
	{"(+ (* 1000000000000 1000) 1)", api.MaxReckon},
	{"(- (* 1000000000000 -1000) 1)", -api.MaxReckon},
	{"(- (+ (* 1000000000000 1000) 7) 1)", api.MaxReckon - 1},
	{"(+ (* 1000000000000 1000) 7 -1)", api.MaxReckon - 1},
	{"(- (* 1000000000000 -1000) 7 -1)", -api.MaxReckon + 1},
	{"(- (* 1000000000000 -1000) (* 1000000000000 1000) (* 1000000000000 -1000))", 0},
	{"(/ (* 1000000000000 -1000) -1)", api.MaxReckon},
}

// TestValues: P9.3, each line of the table of formulas.
func TestValues(t *testing.T) {
	l := facts(t, siteRecord)
	for _, c := range valueCases {
		x := form(t, c.text)
		value, e := claims.Value(wholeContract(), l, 12, x)
		equal(t, c.text, []any{value, e}, []any{c.want, api.OK})
		equal(t, c.text+" in whole numbers of any size", reckon(wholeContract(), l, 12, x).Int64(), c.want)
	}
}

// TestValueTimes: P9.3, a fact counts from its time on.
func TestValueTimes(t *testing.T) {
	l := facts(t, siteRecord)
	for now, want := range map[int]string{
		0:           "4 1 0 0 4 0",
		6:           "4 1 0 0 4 6",
		7:           "9 3 0 7 6 7",
		11:          "9 3 0 7 6 11",
		12:          "11 4 0 12 2 12",
		api.MaxTime: "11 4 0 12 2 100000",
	} {
		var got []string
		for _, text := range []string{"(sum met clay)", "(count met clay)", "(first met clay)", "(last met clay)", "(latest met clay)", "(now)"} {
			value, e := claims.Value(api.Contract{}, l, now, form(t, text))
			equal(t, text, e, api.OK)
			got = append(got, strconv.FormatInt(value, 10))
		}
		equal(t, strconv.Itoa(now), strings.Join(got, " "), want)
	}
	value, e := claims.Value(api.Contract{}, nil, 0, form(t, "(first met clay)"))
	equal(t, "no fact", []any{value, e}, []any{int64(-1), api.OK})
}

// TestValuesRandom: P9.3, against the chapter's words in whole numbers of any size.
func TestValuesRandom(t *testing.T) {
	r := rand.New(rand.NewSource(331))
	beyond, truths := 0, 0
	for range 6000 {
		c := randomContract(r)
		l := randomRecord(r, 12, 20)
		now := r.Intn(25)
		x := randomNumber(r, c, 2+r.Intn(5))
		if r.Intn(3) == 0 {
			x = randomTruth(r, c, 2+r.Intn(5))
		}
		text, e := claims.Print(x)
		if e != api.OK { // it is too long
			continue
		}
		value, e := claims.Value(c, l, now, x)
		want := reckon(c, l, now, x).Int64()
		equal(t, text, []any{value, e}, []any{want, api.OK})
		if want == api.MaxReckon || want == -api.MaxReckon {
			beyond++
		}
		if x.Name == "and" || x.Name == "or" || x.Name == "not" {
			truths++
		}
	}
	if beyond < 25 || truths < 300 {
		t.Error("too few:", beyond, truths)
	}
}
