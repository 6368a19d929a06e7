package exact_test

import (
	"fmt"
	"math/rand"
	"strings"
	"testing"

	"underpin/api"
	"underpin/exact"
)

// badTerms are terms with an error each, and the error.
var badTerms = []struct {
	terms []api.Term
	want  api.Errno
}{
	{terms("", "1"), api.ErrName},
	{terms("X", "1"), api.ErrName},
	{terms("1x", "1"), api.ErrName},
	{terms("-x", "1"), api.ErrName},
	{terms("x_y", "1"), api.ErrName},
	{terms("é", "1"), api.ErrName},
	{terms("abcdefghijklmnopq", "1"), api.ErrName},
	{terms("", "x"), api.ErrName},
	{terms("x", ""), api.ErrForm},
	{terms("x", "2/4"), api.ErrForm},
	{terms("x", "1.5"), api.ErrForm},
	{terms("x", "-0"), api.ErrForm},
	{terms("x", "2/40000000000000"), api.ErrForm},
	{terms("x", "0"), api.ErrArg},
	{terms("x", "1000000000000"), api.ErrLimit},
	{terms("x", "-1000000000000"), api.ErrLimit},
	{terms("x", "1/1000000000000"), api.ErrLimit},
	{terms("x", "1", "x", "1"), api.ErrTwice},
	{terms("y", "1", "x", "1"), api.ErrArg},
	{terms("x-", "1", "x", "1"), api.ErrArg},
	{terms("x", "1", "x", "0"), api.ErrArg},
	{terms("x", "1", "x", "1000000000000"), api.ErrLimit},
	{terms("y", "1", "x", "x"), api.ErrForm},
	{terms("x", "0", "X", "1"), api.ErrArg},
	{terms("x", "1", "x", "1", "X", "1"), api.ErrTwice},
}

// goodTerms have no error.
var goodTerms = []api.Term{{Name: "a", Coef: "999999999999"}, {Name: "abcdefghijklmnop", Coef: "-999999999999/999999999998"}, {Name: "b-2-", Coef: "1/2"}, {Name: "b0", Coef: "-1"}}

// TestCheck: P1.4, the errors of terms and of rows, in order.
func TestCheck(t *testing.T) {
	good := api.Row{Terms: goodTerms, Bound: "-999999999999/999999999998"}
	if e := exact.Check([]api.Row{good, {Bound: "0"}, good}); e != api.OK {
		t.Fatal("good rows:", e)
	}
	equal(t, "no rows", exact.Check(nil), api.OK)
	for _, c := range badTerms {
		equal(t, fmt.Sprint(c.terms), exact.Check([]api.Row{good, {Terms: c.terms, Bound: "x"}, {Bound: "y"}}), c.want)
	}
	for bound, want := range map[api.Frac]api.Errno{"": api.ErrForm, "x": api.ErrForm, "2/4": api.ErrForm, "1000000000000": api.ErrLimit, "1/1000000000000": api.ErrLimit} {
		equal(t, string(bound), exact.Check([]api.Row{{Terms: goodTerms, Bound: bound}}), want)
	}
	equal(t, "the first row with an error", exact.Check([]api.Row{{Bound: "1000000000000"}, {Terms: terms("X", "1"), Bound: "1"}}), api.ErrLimit)
}

// manyRows returns m rows that have n unknowns together.
func manyRows(m, n int) []api.Row {
	var l []api.Row
	for i := range m {
		l = append(l, api.Row{Terms: terms(fmt.Sprintf("u%02d", i%n), "1"), Bound: "1"})
	}
	return l
}

// TestCheckLimits: P1.4, how many rows and unknowns there may be.
func TestCheckLimits(t *testing.T) {
	equal(t, "800 rows", exact.Check(manyRows(api.MaxRows, api.MaxVars)), api.OK)
	equal(t, "801 rows", exact.Check(append(manyRows(api.MaxRows, 1), api.Row{Bound: "x"})), api.ErrLimit)
	equal(t, "81 unknowns", exact.Check(manyRows(81, 81)), api.ErrLimit)
	equal(t, "81 unknowns and an error", exact.Check(append(manyRows(81, 81), api.Row{Bound: "x"})), api.ErrForm)
}

// TestNames: P1.4.
func TestNames(t *testing.T) {
	l, e := exact.Names(rows(t, "1 b 2 c-1 <= 1\n1 a 1 c <= 0\n<= 3\n1 b <= 2\n"))
	equal(t, "error", e, api.OK)
	equal(t, "names", l, []string{"a", "b", "c", "c-1"})
	l, e = exact.Names(nil)
	equal(t, "no rows", e, api.OK)
	equal(t, "no rows", l, []string(nil))
	l, e = exact.Names(manyRows(81, 81))
	equal(t, "too many", e, api.ErrLimit)
	equal(t, "too many", l, []string(nil))
	if l, _ := exact.Names(manyRows(800, 80)); len(l) != 80 || l[0] != "u00" || l[79] != "u79" {
		t.Error(l)
	}
}

// badPoints are points with an error each, and the error.
var badPoints = []struct {
	point []api.Value
	want  api.Errno
}{
	{point("X", "1"), api.ErrName},
	{point("", "x"), api.ErrName},
	{point("x", ""), api.ErrForm},
	{point("x", "2/4"), api.ErrForm},
	{point("x", "1", "x", "1"), api.ErrTwice},
	{point("y", "1", "x", "1"), api.ErrArg},
	{point("y", "1", "x", "1.5"), api.ErrForm},
	{point("x", "1", "x", "2", "X", "1"), api.ErrTwice},
}

// TestSum: P1.5.
func TestSum(t *testing.T) {
	for _, c := range []struct {
		terms []api.Term
		point []api.Value
		want  api.Frac
	}{
		{nil, nil, "0"},
		{nil, point("x", "5"), "0"},
		{terms("x", "2"), nil, "0"},
		{terms("x", "2"), point("y", "5"), "0"},
		{terms("x", "2", "z", "-1/3"), point("a", "7", "x", "1/4", "y", "9", "z", "-3/2"), "1"},
		{terms("x", "1", "y", "-1"), point("x", "1/3", "y", "1/3"), "0"},
		{terms("x", "1"), point("w", "1", "x", "0"), "0"},
		{goodTerms, point("a", "1"), "999999999999"},
	} {
		s, e := exact.Sum(c.terms, c.point)
		equal(t, fmt.Sprint(c.terms, c.point, e), s, c.want)
		equal(t, "error", e, api.OK)
	}
	for _, c := range badTerms {
		s, e := exact.Sum(c.terms, point("X", "1"))
		equal(t, fmt.Sprint(c.terms), e, c.want)
		equal(t, "with an error", s, api.Frac(""))
	}
	for _, c := range badPoints {
		s, e := exact.Sum(goodTerms, c.point)
		equal(t, fmt.Sprint(c.point), e, c.want)
		equal(t, "with an error", s, api.Frac(""))
	}
	s, e := exact.Sum(terms("x", "1", "y", "1"), point("x", most, "y", "1"))
	equal(t, "too long", e, api.ErrLimit)
	equal(t, "too long", s, api.Frac(""))
	s, e = exact.Sum(terms("x", "1", "y", "-1"), point("x", most, "y", most))
	equal(t, "long", e, api.OK)
	equal(t, "long", s, api.Frac("0"))
	many := make([]api.Term, 200) // terms and points have no greatest length
	var p []api.Value
	for i := range many {
		many[i] = api.Term{Name: fmt.Sprintf("u%03d", i), Coef: "1"}
		p = append(p, api.Value{Name: many[i].Name, Value: "1/2"})
	}
	s, e = exact.Sum(many, p)
	equal(t, "200 terms", e, api.OK)
	equal(t, "200 terms", s, api.Frac("100"))
}

// TestHolds: P1.5.
func TestHolds(t *testing.T) {
	l := rows(t, "1 x 1/2 y <= 3\n-1 x <= -1\n<= 0\n1 z <= 0\n")
	for _, c := range []struct {
		point []api.Value
		want  int
	}{
		{point("x", "3"), -1}, {point("x", "1"), -1}, {point("x", "2", "y", "2"), -1}, {point("x", "2", "y", "21/10"), 0},
		{nil, 1}, {point("x", "99/100"), 1}, {point("x", "2", "z", "1/1000000000000000000000000000000"), 3}, {point("a", "5", "x", "1", "zz", "3"), -1},
	} {
		n, e := exact.Holds(l, c.point)
		equal(t, "error", e, api.OK)
		equal(t, fmt.Sprint(c.point), n, c.want)
	}
	n, e := exact.Holds(rows(t, "<= 1\n<= -1\n<= -2\n"), nil)
	equal(t, "error", e, api.OK)
	equal(t, "rows without terms", n, 1)
	n, e = exact.Holds(nil, nil)
	equal(t, "error", e, api.OK)
	equal(t, "no rows", n, -1)
	for _, c := range badTerms {
		n, e := exact.Holds([]api.Row{{Terms: c.terms, Bound: "1"}}, point("X", "1"))
		equal(t, fmt.Sprint(c.terms), e, c.want)
		equal(t, "with an error", n, 0)
	}
	for _, c := range badPoints {
		n, e := exact.Holds(l, c.point)
		equal(t, fmt.Sprint(c.point), e, c.want)
		equal(t, "with an error", n, 0)
	}
	// sums have no limit here
	n, e = exact.Holds(rows(t, "1 x 1 y 1 z <= 0\n"), point("x", most, "y", "1", "z", "-"+most))
	equal(t, "error", e, api.OK)
	equal(t, "a long sum above the bound", n, 0)
	n, e = exact.Holds(rows(t, "1 x 1 y 1 z <= 0\n"), point("x", most, "y", "-1/3", "z", "-"+most))
	equal(t, "error", e, api.OK)
	equal(t, "a long sum below the bound", n, -1)
}

// TestPrint: P1.6.
func TestPrint(t *testing.T) {
	s, e := exact.Print([]api.Row{{Terms: terms("x", "-1", "y", "1/2"), Bound: "-22/7"}, {Bound: "0"}})
	equal(t, "error", e, api.OK)
	equal(t, "text", s, "-1 x 1/2 y <= -22/7\n<= 0\n")
	s, e = exact.Print(nil)
	equal(t, "error", e, api.OK)
	equal(t, "no rows", s, "")
	for _, c := range badTerms {
		s, e := exact.Print([]api.Row{{Terms: c.terms, Bound: "1"}})
		equal(t, fmt.Sprint(c.terms), e, c.want)
		equal(t, "with an error", s, "")
	}
	// 65536 bytes are 2048 times 32; a line of a term takes 7 bytes, its name, and its Coef
	var l []api.Row
	for len(l) < 512 {
		x := api.Row{Bound: "123456789"}
		for k := range 4 {
			x.Terms = append(x.Terms, api.Term{Name: fmt.Sprintf("unknown-%04d", k), Coef: "11111111111"})
		}
		l = append(l, x)
	}
	s, e = exact.Print(l) // each line: 4 * (11+1+12+1) + 2 + 1 + 9 + 1 = 113
	equal(t, "error", e, api.OK)
	equal(t, "length", len(s), 512*113)
	for len(s) <= api.MaxText-113 {
		l = append(l, l[0])
		s, _ = exact.Print(l)
	}
	rest := api.MaxText - len(s) // 109 bytes, as 65536 is 579 * 113 + 109
	x := api.Row{Terms: append([]api.Term(nil), l[0].Terms...), Bound: "12345"}
	l = append(l, x)
	s, e = exact.Print(l)
	equal(t, "rest", rest, 109)
	equal(t, "error", e, api.OK)
	equal(t, "length", len(s), api.MaxText)
	l[len(l)-1].Bound = "123456"
	s, e = exact.Print(l)
	equal(t, "a byte more", e, api.ErrLimit)
	equal(t, "a byte more", s, "")
}

// TestParse: P1.6.
func TestParse(t *testing.T) {
	for text, want := range map[string]string{
		"":                  "",
		"1 x <= 1":          "1 x <= 1\n",
		"1 x <= 1\n":        "1 x <= 1\n",
		"1/2 x -3 y >= 5\n": "-1/2 x 3 y <= -5\n",
		"1 x = -2\n":        "1 x <= -2\n-1 x <= 2\n",
		"= 0\n>= 3\n<= 1/2": "<= 0\n<= 0\n<= -3\n<= 1/2\n",
	} {
		l, line, e := exact.Parse(text)
		s, f := exact.Print(l)
		equal(t, text, []any{line, e, f, s}, []any{0, api.OK, api.OK, want})
	}
	for text, want := range map[string]int{
		"\n": 1, " ": 1, "1 x <= 1\n\n": 2, "1 x <= 1\n\n1 x <= 1\n": 2, " 1 x <= 1": 1, "1 x <= 1 ": 1, "1  x <= 1": 1, "1 x <=  1": 1,
		"1 x <= 1\r\n": 1, "1\tx <= 1": 1, "x <= 1": 1, "1 x 1 <= 1": 1, "1 x <=": 1, "1 x 1": 1, "1 x < 1": 1, "1 x == 1": 1, "1 x => 1": 1,
		"1 x <= 1.5": 1, "2/4 x <= 1": 1, "1 x <= x": 1, "1 x <= 1 <= 1": 1, "<=": 1, "<= 1\n= 1\n1": 3, "+1 x <= 1": 1, "1 x <= ": 1, "1  <= 1": 1,
		"1 a >= 0\n1 b = 0\n2 c <= -0/1": 3, "1 X <= 1\n1 x <= 1 y\n": 2, // the form of all lines comes first
	} {
		l, line, e := exact.Parse(text)
		equal(t, fmt.Sprintf("%q", text), []any{len(l), line, e}, []any{0, want, api.ErrForm})
	}
	for text, want := range map[string]api.Errno{
		"1 X <= 1": api.ErrName, "1 x\ty <= 1": api.ErrName, "1 <= <= 1": api.ErrName, "1 = = 1": api.ErrName, "0 x >= 1": api.ErrArg, "1 x 1 x = 1": api.ErrTwice,
		"1 y 1 x <= 1": api.ErrArg, "1000000000000 x <= 1": api.ErrLimit, "1 x >= 1000000000000": api.ErrLimit,
		strings.Repeat("1 x = 1\n", 401): api.ErrLimit, strings.Repeat("<= 1\n", 801): api.ErrLimit,
	} {
		l, line, e := exact.Parse(text)
		equal(t, fmt.Sprintf("%.30q", text), []any{len(l), line, e}, []any{0, 0, want})
	}
	l, line, e := exact.Parse(strings.Repeat("1 x = 1\n", 400))
	equal(t, "400 equations", []any{len(l), line, e}, []any{800, 0, api.OK})
	long := "1 " + strings.Repeat("x", api.MaxText-7) + " <= 1"
	l, line, e = exact.Parse(long)
	equal(t, "65536 bytes", []any{len(long), len(l), line, e}, []any{api.MaxText, 0, 0, api.ErrName})
	l, line, e = exact.Parse(long + "\n")
	equal(t, "65537 bytes", []any{len(l), line, e}, []any{0, 0, api.ErrLimit})
	l, line, e = exact.Parse(strings.Repeat("?\n", api.MaxText))
	equal(t, "too long, and wrong", []any{len(l), line, e}, []any{0, 0, api.ErrLimit})
}

// TestEliminate: P1.7.
func TestEliminate(t *testing.T) {
	for _, c := range []struct{ text, name, want string }{
		{"2 x 1 y <= 4\n-1 x <= -1\n1 z <= 0\n", "x", "1 z <= 0\n1/2 y <= 1\n"},
		{"1 x <= 1\n", "x", ""},
		{"-1 x <= 1\n1 y <= 2\n<= 3\n", "x", "1 y <= 2\n<= 3\n"},
		{"1 x <= 1\n-1 x <= -2\n", "x", "<= -1\n"},
		{"1 x 1 y <= 1\n-2 x -2 y <= 0\n", "x", "<= 1\n"},
		{"1 a 2 m <= 1\n1 a 3 m <= 2\n1 b -4 m <= 3\n1 c -5 m <= 4\n", "m", "1/2 a 1/4 b <= 5/4\n1/2 a 1/5 c <= 13/10\n1/3 a 1/4 b <= 17/12\n1/3 a 1/5 c <= 22/15\n"},
		{"1 x 1 z <= 1\n-1 x -1 y 1 z <= 1\n", "x", "-1 y 2 z <= 2\n"},
	} {
		l, e := exact.Eliminate(rows(t, c.text), c.name)
		s, f := exact.Print(l)
		equal(t, c.text, []any{e, f, s}, []any{api.OK, api.OK, c.want})
	}
	for _, name := range []string{"z", "", "X", "x "} {
		l, e := exact.Eliminate(rows(t, "1 x <= 1\n"), name)
		equal(t, name, []any{len(l), e}, []any{0, api.ErrNone})
	}
	for _, c := range badTerms {
		l, e := exact.Eliminate([]api.Row{{Terms: c.terms, Bound: "1"}}, "nothing")
		equal(t, fmt.Sprint(c.terms), []any{len(l), e}, []any{0, c.want})
	}
	for text, want := range map[string]api.Errno{
		"999999999999 x 1 y <= 0\n-1 x 1 y <= 0\n": api.ErrLimit, // 1/999999999999 + 1
		"999999999999 x 1 y <= 0\n-1 x 1 z <= 0\n": api.OK,       // 1/999999999999
		"1 x <= 999999999999\n-1 x <= 1\n":         api.ErrLimit, // the bound
		"1 x 1 y <= 999999999999\n-1 x 1 z <= 0\n": api.OK,       //
		"1/999999999999 x 2 y <= 0\n-1 x <= 0\n":   api.ErrLimit, // 2 * 999999999999
		"1/999999999999 x 1 y <= 0\n-1 x <= 0\n":   api.OK,       //
		"3 x 1 y <= 1/999999999999\n-1 x <= 0\n":   api.ErrLimit, //
		"3 x 3 y <= 3/999999999998\n-1 x <= 0\n":   api.OK,       //
	} {
		l, e := exact.Eliminate(rows(t, text), "x")
		equal(t, text, e, want)
		if e != api.OK {
			equal(t, text, l, []api.Row(nil))
		}
	}
	var l []api.Row
	for i := range 56 { // 28 * 28 = 784 rows, and what is left of 800
		l = append(l, api.Row{Terms: terms("x", fmt.Sprint(1-i%2*2)), Bound: "0"})
	}
	for range 16 {
		l = append(l, api.Row{Bound: "1"})
	}
	out, e := exact.Eliminate(l, "x")
	equal(t, "800 rows", []any{len(out), e}, []any{800, api.OK})
	out, e = exact.Eliminate(append(l, api.Row{Bound: "1"}), "x")
	equal(t, "801 rows", []any{len(out), e}, []any{0, api.ErrLimit})
}

// TestEliminateSums: P1.7, by its words, for random rows.
func TestEliminateSums(t *testing.T) {
	r := rand.New(rand.NewSource(4))
	for range 300 {
		l := randomRows(r, 1+r.Intn(8), 4)
		got, e := exact.Eliminate(l, "x1")
		var want, above, below []api.Row
		for _, x := range l {
			switch c := sumAt(t, x.Terms, point("x1", "1")); c.Sign() {
			case 0:
				want = append(want, x)
			case 1:
				above = append(above, times(t, x, c.Inv(c).RatString()))
			default:
				below = append(below, times(t, x, c.Inv(c).Neg(c).RatString()))
			}
		}
		if len(above)+len(below) == 0 {
			equal(t, "nothing to eliminate", e, api.ErrNone)
			continue
		}
		long := false
		for _, x := range above {
			for _, y := range below {
				coefs, bound := weigh(t, []api.Row{x, y}, fracs("1", "1"))
				sum := api.Row{Bound: frac(bound)}
				for _, name := range []string{"x0", "x1", "x2", "x3"} {
					if coefs[name] != nil {
						sum.Terms = append(sum.Terms, api.Term{Name: name, Coef: frac(coefs[name])})
					}
				}
				long = long || exact.Check([]api.Row{sum}) == api.ErrLimit
				want = append(want, sum)
			}
		}
		if long {
			equal(t, "long numbers", []any{len(got), e}, []any{0, api.ErrLimit})
			continue
		}
		equal(t, "rows", fmt.Sprint(got, e), fmt.Sprint(want, api.OK))
	}
}

// times is a row with all numbers times x.
func times(t testing.TB, r api.Row, x string) api.Row {
	t.Helper()
	var out api.Row
	for _, term := range r.Terms {
		term.Coef = product(t, term.Coef, api.Frac(x))
		out.Terms = append(out.Terms, term)
	}
	out.Bound = product(t, r.Bound, api.Frac(x))
	return out
}

// product is a * b, by math/big.
func product(t testing.TB, a, b api.Frac) api.Frac {
	t.Helper()
	x := rat(t, a)
	return frac(x.Mul(x, rat(t, b)))
}
