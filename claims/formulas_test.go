package claims_test

import (
	"fmt"
	"math"
	"math/rand"
	"reflect"
	"regexp"
	"slices"
	"strings"
	"testing"

	"underpin/api"
	"underpin/claims"
)

// TestParse: P9.2, formulas of each form, which are written as they stand.
func TestParse(t *testing.T) {
	for text, want := range map[string]api.Expr{
		"0":                                  num(0),
		"-7":                                 num(-7),
		"1000000000000":                      num(api.MaxAmount),
		"-1000000000000":                     num(-api.MaxAmount),
		"(+ 1 2)":                            do("+", num(1), num(2)),
		"(- 1 2 3)":                          do("-", num(1), num(2), num(3)),
		"(* 1 2 3 4)":                        do("*", num(1), num(2), num(3), num(4)),
		"(min 1 2)":                          do("min", num(1), num(2)),
		"(max 1 2 3)":                        do("max", num(1), num(2), num(3)),
		"(/ 1 0)":                            do("/", num(1), num(0)),
		"(< 1 2)":                            do("<", num(1), num(2)),
		"(<= 1 2)":                           do("<=", num(1), num(2)),
		"(= 1 2)":                            do("=", num(1), num(2)),
		"(and (< 1 2) (< 1 2))":              do("and", do("<", num(1), num(2)), do("<", num(1), num(2))),
		"(or (< 1 2) (< 1 2) (= 1 1))":       do("or", do("<", num(1), num(2)), do("<", num(1), num(2)), do("=", num(1), num(1))),
		"(not (< 1 2))":                      do("not", do("<", num(1), num(2))),
		"(if (< 1 2) 3 4)":                   do("if", do("<", num(1), num(2)), num(3), num(4)),
		"(sum met clay)":                     ask("sum", "met", "clay"),
		"(count a b-1)":                      ask("count", "a", "b-1"),
		"(first sum now)":                    ask("first", "sum", "now"),
		"(last if if)":                       ask("last", "if", "if"),
		"(latest a a)":                       ask("latest", "a", "a"),
		"(base base)":                        ask("base", "base"),
		"(price abcdefghijklmnop)":           ask("price", "abcdefghijklmnop"),
		"(now)":                              ask("now"),
		"(+ (now) (* 2 (- 3 (base x))) -10)": do("+", ask("now"), do("*", num(2), do("-", num(3), ask("base", "x"))), num(-10)),
	} {
		x, at, e := claims.Parse(text)
		equal(t, text, []any{at, e}, []any{0, api.OK})
		equal(t, text, claims.Same(x, want), true)
		again, e := claims.Print(want)
		equal(t, text, []any{again, e}, []any{text, api.OK})
	}
}

// placeCases are texts with the places where they go wrong.
var placeCases = []struct {
	text string
	at   int
	want api.Errno
}{
	{"", 0, api.ErrForm},
	{"   ", 3, api.ErrForm},
	{"  5  ", 0, api.OK},
	{"5 5", 2, api.ErrForm},
	{"5  (now)", 3, api.ErrForm},
	{"5(now)", 1, api.ErrForm},
	{"5)", 1, api.ErrForm},
	{"(now)5", 5, api.ErrForm},
	{"(now)(now)", 5, api.ErrForm},
	{"(now))", 5, api.ErrForm},
	{")", 0, api.ErrForm},
	{"(", 1, api.ErrForm},
	{"( ", 2, api.ErrForm},
	{"()", 1, api.ErrForm},
	{"((now))", 1, api.ErrForm},
	{"now", 0, api.ErrForm},
	{"+", 0, api.ErrForm},
	{"-", 0, api.ErrForm},
	{"-0", 0, api.ErrForm},
	{"+5", 0, api.ErrForm},
	{"05", 0, api.ErrForm},
	{" 00", 1, api.ErrForm},
	{"5.0", 0, api.ErrForm},
	{"1e3", 0, api.ErrForm},
	{"1_0", 0, api.ErrForm},
	{"0x1", 0, api.ErrForm},
	{"5\n", 0, api.ErrForm},
	{"\t5", 0, api.ErrForm},
	{"5\t", 0, api.ErrForm},
	{"\xff", 0, api.ErrForm},
	{"5 \x00", 2, api.ErrForm},
	{"é", 0, api.ErrForm},
	{"9999999999999", 0, api.ErrArg},
	{"10000000000000", 0, api.ErrForm},
	{"-10000000000000", 0, api.ErrForm},
	{"99999999999999999999", 0, api.ErrForm},
	{"1000000000001", 0, api.ErrArg},
	{"-1000000000001", 0, api.ErrArg},
	{"(now 1)", 5, api.ErrForm},
	{"(now now)", 5, api.ErrForm},
	{"(now", 4, api.ErrForm},
	{"  (  now  )  ", 0, api.OK},
	{"  (  now  ", 10, api.ErrForm},
	{"(Now)", 1, api.ErrForm},
	{"(now\n)", 1, api.ErrForm},
	{"(then 1 2)", 1, api.ErrForm},
	{"(-5 3)", 1, api.ErrForm},
	{"(+1 2)", 1, api.ErrForm},
	{"(- 5 3)", 0, api.OK},
	{"(-(now)(now))", 0, api.OK},
	{"(- 5(now)5)", 0, api.OK},
	{"(+)", 2, api.ErrForm},
	{"(+ 1)", 4, api.ErrForm},
	{"(+ 1  )", 6, api.ErrForm},
	{"(+ 1", 4, api.ErrForm},
	{"(+ 1 2", 6, api.ErrForm},
	{"(+ 1 2  ", 8, api.ErrForm},
	{"(+ 1 x)", 5, api.ErrForm},
	{"(+ 1 2 x)", 7, api.ErrForm},
	{"(+ 1 2 (x) y)", 8, api.ErrForm},
	{"(+ x 1 2)", 3, api.ErrForm},
	{"(/ 1)", 4, api.ErrForm},
	{"(/ 1 2 3)", 7, api.ErrForm},
	{"(/ 1 2 (now))", 7, api.ErrForm},
	{"(< 1 2 x", 7, api.ErrForm},
	{"(<= 1)", 5, api.ErrForm},
	{"(<= 1 2 3)", 8, api.ErrForm},
	{"(= 1 2 3)", 7, api.ErrForm},
	{"(=)", 2, api.ErrForm},
	{"(== 1 2)", 1, api.ErrForm},
	{"(> 1 2)", 1, api.ErrForm},
	{"(not)", 4, api.ErrForm},
	{"(not (= 1 2) 3)", 13, api.ErrForm},
	{"(and (= 1 2))", 12, api.ErrForm},
	{"(or)", 3, api.ErrForm},
	{"(if (= 1 2) 3)", 13, api.ErrForm},
	{"(if (= 1 2) 3 4 5)", 16, api.ErrForm},
	{"(sum)", 4, api.ErrForm},
	{"(sum met)", 8, api.ErrForm},
	{"(sum met clay rock)", 14, api.ErrForm},
	{"(sum met 5)", 9, api.ErrForm},
	{"(sum 5 met)", 5, api.ErrForm},
	{"(sum (now) clay)", 5, api.ErrForm},
	{"(sum met (now))", 9, api.ErrForm},
	{"(sum Met clay)", 5, api.ErrForm},
	{"(sum met -)", 9, api.ErrForm},
	{"(count a abcdefghijklmnopq)", 9, api.ErrForm},
	{"(count a a\x00)", 9, api.ErrForm},
	{"(first a)", 8, api.ErrForm},
	{"(first a b", 10, api.ErrForm},
	{"(last a b c)", 10, api.ErrForm},
	{"(latest a b c)", 12, api.ErrForm},
	{"(latest)", 7, api.ErrForm},
	{"(base)", 5, api.ErrForm},
	{"(base a b)", 8, api.ErrForm},
	{"(base 1)", 6, api.ErrForm},
	{"(price)", 6, api.ErrForm},
	{"(price a b)", 9, api.ErrForm},
	{"(price price)", 0, api.OK},
	{"(+ 1 (< 1 2))", 0, api.ErrArg},
	{"(+ (< 1 2) 1)", 0, api.ErrArg},
	{"(+ 1 1 (not (= 1 1)))", 0, api.ErrArg},
	{"(- 1 (= 1 1))", 0, api.ErrArg},
	{"(* 1 (= 1 1))", 0, api.ErrArg},
	{"(min 1 (= 1 1))", 0, api.ErrArg},
	{"(max 1 (= 1 1))", 0, api.ErrArg},
	{"(/ (= 1 1) 1)", 0, api.ErrArg},
	{"(/ 1 (= 1 1))", 0, api.ErrArg},
	{"(< (= 1 1) 1)", 0, api.ErrArg},
	{"(< 1 (= 1 1))", 0, api.ErrArg},
	{"(<= 1 (= 1 1))", 0, api.ErrArg},
	{"(= (= 1 1) (= 1 1))", 0, api.ErrArg},
	{"(and 1 (= 1 1))", 0, api.ErrArg},
	{"(and (= 1 1) 0)", 0, api.ErrArg},
	{"(or (= 1 1) (= 1 1) (now))", 0, api.ErrArg},
	{"(not 1)", 0, api.ErrArg},
	{"(not (sum a b))", 0, api.ErrArg},
	{"(if 1 2 3)", 0, api.ErrArg},
	{"(if (= 1 1) (= 1 1) 3)", 0, api.ErrArg},
	{"(if (= 1 1) 2 (= 1 1))", 0, api.ErrArg},
	{"(if (= 1 1) (= 1 1) (= 1 1))", 0, api.ErrArg},
	{"(not (if (= 1 1) 0 1))", 0, api.ErrArg},
	{"(not (and (= 1 1) 1))", 0, api.ErrArg},
	{"(not (not (not (= 1 1))))", 0, api.OK},
}

// TestParsePlaces: P9.2.
func TestParsePlaces(t *testing.T) {
	for _, c := range placeCases {
		x, at, e := claims.Parse(c.text)
		alone(t, c.text, e, x)
		equal(t, fmt.Sprintf("%q", c.text), []any{at, e}, []any{c.at, c.want})
	}
}

// nested is a sum in a sum, so deep.
func nested(depth int, end string) string {
	return strings.Repeat("(+ 1 ", depth-1) + end + strings.Repeat(")", depth-1)
}

// TestParseLimits: P9.2 and R7, limits are allowed themselves, and their errors come in order.
func TestParseLimits(t *testing.T) {
	long := "(+" + strings.Repeat(" 1", 998) + " )"
	for _, c := range []struct {
		what, text string
		at         int
		want       api.Errno
	}{
		{"2000 bytes", long, 0, api.OK},
		{"2001 bytes", long + " ", 0, api.ErrLimit},
		{"2001 bytes of anything", strings.Repeat(")", 2001), 0, api.ErrLimit},
		{"2000 bytes of anything", strings.Repeat(")", 2000), 0, api.ErrForm},
		{"2000 blanks", strings.Repeat(" ", 2000), 2000, api.ErrForm},
		{"far too many bytes", strings.Repeat("(", 1<<20), 0, api.ErrLimit},
		{"as deep as can be", nested(24, "1"), 0, api.OK},
		{"as deep as can be, a question", nested(24, "(now)"), 0, api.OK},
		{"too deep", nested(25, "1"), 0, api.ErrLimit},
		{"too deep, a question", nested(25, "(now)"), 0, api.ErrLimit},
		{"too deep in the first argument", "(+ (+ " + nested(23, "1") + " 1) 1)", 0, api.ErrLimit},
		{"far too deep", nested(300, "1"), 0, api.ErrLimit},
		{"far too deep without an end", strings.Repeat("(+", 1000), 2000, api.ErrForm},
		{"without an end behind a number", strings.Repeat("(not", 100) + " x", 401, api.ErrForm},
		{"too deep, and of no form behind it", nested(25, "1") + " 1", len(nested(25, "1")) + 1, api.ErrForm},
		{"too great a number, and of no form behind it", "(+ 1000000000001", 16, api.ErrForm},
		{"too great a number, and too deep", nested(25, "1000000000001"), 0, api.ErrArg},
		{"too great a number behind all that is too deep", "(+ " + nested(25, "1") + " -1000000000001)", 0, api.ErrArg},
		{"too deep, and another type", "(not " + nested(25, "1") + ")", 0, api.ErrLimit},
		{"another type ahead of what is too deep", "(if 1 " + nested(25, "1") + " 1)", 0, api.ErrLimit},
		{"as deep as can be, and another type", "(not " + nested(23, "1") + ")", 0, api.ErrArg},
	} {
		x, at, e := claims.Parse(c.text)
		alone(t, c.what, e, x)
		equal(t, c.what, []any{at, e}, []any{c.at, c.want})
	}
	x := form(t, long)
	equal(t, "998 arguments", len(x.Args), 998)
}

// closed are groups that end with a parenthesis, as they are when all that they hold is closed. N is a formula, A a name
// that may be a word as well.
var closed = regexp.MustCompile(`\( (?:(?:\+|-|\*|min|max|and|or)(?: N){2,}|(?:/|<|<=|=)(?: N){2}|not N|if(?: N){3}|(?:sum|count|first|last|latest)(?: A){2}|(?:base|price) A|now) \)`)

// What a part of its own is.
var (
	number = regexp.MustCompile(`^(0|-?[1-9][0-9]{0,12})$`)
	name   = regexp.MustCompile(`^[a-z][a-z0-9-]{0,15}$`)
	piece  = regexp.MustCompile(`[()]|[^() ]+`)
)

// reduced are parts with a formula in place of each closed one.
func reduced(parts []string) string {
	var l []string
	for i, part := range parts {
		switch {
		case number.MatchString(part):
			part = "N"
		case name.MatchString(part) && (i == 0 || parts[i-1] != "("):
			part = "A"
		case part == "N" || part == "A":
			part = "?"
		}
		l = append(l, part)
	}
	text := strings.Join(l, " ")
	for {
		next := closed.ReplaceAllString(text, "N")
		if next == text {
			return text
		}
		text = next
	}
}

// goesOn tells whether parts begin a formula: if all groups that are open, the inner ones first, can be closed.
func goesOn(parts []string) bool {
	text := reduced(parts)
	for strings.Contains(text, "(") {
		at := strings.LastIndex(text, "(")
		group, found := text[at:], false
		for _, more := range []string{" now", " N", " A", ""} {
			for times := range 4 {
				if whole := group + strings.Repeat(more, times) + " )"; !found && closed.FindString(whole) == whole {
					text, found = text[:at]+"N", true
				}
			}
		}
		if !found {
			return false
		}
	}
	return text == "" || text == "N"
}

// partsOf are the parts of a text and their places.
func partsOf(text string) (parts []string, places []int) {
	for _, at := range piece.FindAllStringIndex(text, -1) {
		parts, places = append(parts, text[at[0]:at[1]]), append(places, at[0])
	}
	return parts, places
}

// placeBy is the place at which a text goes wrong, and whether it does: part by part it is asked whether a formula goes on.
func placeBy(text string) (int, bool) {
	parts, places := partsOf(text)
	for i := range parts {
		if !goesOn(parts[:i+1]) {
			return places[i], true
		}
	}
	return len(text), reduced(parts) != "N"
}

// TestParseRandom: P9.2, rows of parts, and formulas of which parts were changed, against the other way to read them: from
// inside out.
func TestParseRandom(t *testing.T) {
	r := rand.New(rand.NewSource(311))
	pieces := []string{"(", ")", "(", ")", "+", "-", "not", "if", "sum", "count", "now", "base", "/", "<", "and", "5", "-3", "a", "met", "A", "07", "9999999999999"}
	good, wrong, end := 0, 0, 0
	for range 4000 {
		text, _ := claims.Print(randomTruth(r, exampleContract(), 2+r.Intn(2)))
		parts, _ := partsOf(text)
		if r.Intn(4) == 0 {
			parts = nil
			for range r.Intn(9) {
				parts = append(parts, pick(r, pieces))
			}
		}
		for range r.Intn(3) {
			at := r.Intn(len(parts) + 1)
			switch {
			case r.Intn(3) == 0:
				parts = slices.Insert(parts, at, pick(r, pieces))
			case at < len(parts) && r.Intn(3) == 0:
				parts = slices.Delete(parts, at, at+1)
			case at < len(parts) && r.Intn(3) == 0:
				parts = parts[:at]
			case at < len(parts):
				parts[at] = pick(r, pieces)
			}
		}
		text = strings.Repeat(" ", r.Intn(2))
		for i, part := range parts {
			text += part + pick(r, []string{" ", " ", "   "})
			if i+1 < len(parts) && strings.Contains("()", part) || i+1 < len(parts) && strings.Contains("()", parts[i+1]) || r.Intn(50) == 0 {
				text = strings.TrimRight(text, " ") + strings.Repeat(" ", r.Intn(2))
			}
		}
		at, is := placeBy(text)
		x, got, e := claims.Parse(text)
		if is {
			equal(t, fmt.Sprintf("%q", text), []any{got, e}, []any{at, api.ErrForm})
			wrong++
			if at == len(text) {
				end++
			}
			continue
		}
		if got != 0 || e == api.ErrForm {
			t.Fatalf("%q: %d at %d", text, e, got)
		}
		if e == api.OK {
			good++
			parts, _ = partsOf(text)
			written, e := claims.Print(x)
			again, _ := partsOf(written)
			equal(t, text, []any{again, e}, []any{parts, api.OK})
		}
	}
	if good < 1000 || wrong < 1000 || end < 300 {
		t.Error("too few:", good, wrong, end)
	}
}

// oddFormulas are values that no text is read as.
func oddFormulas() []api.Expr {
	met := ask("sum", "met", "clay")
	with := func(x api.Expr, change func(x *api.Expr)) api.Expr {
		change(&x)
		return x
	}
	endless := do("+", num(1), num(1))
	endless.Args[0] = endless
	return []api.Expr{
		{},
		{Kind: 4},
		{Kind: 255, Number: 7},
		{Kind: api.ExNone, Number: 7},
		{Kind: api.ExNone, Name: "now"},
		{Kind: 4, Name: "now"},
		{Kind: api.ExCall, Name: "now"},
		{Kind: api.ExAsk, Name: "+", Args: []api.Expr{num(1), num(2)}},
		{Kind: api.ExCall, Name: "sum", Words: []string{"met", "clay"}},
		{Kind: api.ExCall},
		{Kind: api.ExAsk},
		num(beyond), num(-beyond), num(math.MaxInt64), num(math.MinInt64),
		with(num(5), func(x *api.Expr) { x.Name = "a" }),
		with(num(5), func(x *api.Expr) { x.Words = []string{""} }),
		with(num(5), func(x *api.Expr) { x.Args = []api.Expr{num(1)} }),
		with(met, func(x *api.Expr) { x.Number = 1 }),
		with(met, func(x *api.Expr) { x.Args = []api.Expr{num(1)} }),
		with(do("+", num(1), num(2)), func(x *api.Expr) { x.Number = 1 }),
		with(do("+", num(1), num(2)), func(x *api.Expr) { x.Words = []string{"a"} }),
		ask("sum", "met"), ask("sum", "met", "clay", "rock"), ask("sum", "met clay"), ask("sum", "", "clay"), ask("sum", "met", " clay"),
		ask("sum", "met", "Clay"), ask("sum", "met", "clay) 1"), ask("now", ""), ask("now "), ask(" now"), ask("base", "5"), ask("then"),
		do("+ 1", num(2), num(3)), do("+", num(1)), do("+"), do("/", num(1), num(2), num(3)), do("not", num(1)), do("then", num(1), num(1)),
		do("+", num(1), api.Expr{Kind: api.ExNone}, num(2)), do("+", num(1), num(2), api.Expr{}), do("+", num(1), do("<", num(1), num(2))),
		do("+", num(1), api.Expr{Kind: api.ExAsk, Name: "now", Number: 3}),
		do("+", slices.Repeat([]api.Expr{num(1)}, 1000)...),
		do("+", slices.Repeat([]api.Expr{num(1)}, 1<<20)...),
		ask("sum", slices.Repeat([]string{"a"}, 1<<20)...),
		ask("base", strings.Repeat("a", 1<<20)),
		endless,
	}
}

// TestPrint: P9.2, what no text is read as is not written.
func TestPrint(t *testing.T) {
	for _, x := range oddFormulas() {
		text, e := claims.Print(x)
		if text != "" || e != api.ErrArg {
			t.Fatalf("%.200q: %d", text, e)
		}
	}
	deep := num(1)
	for range api.MaxNest - 1 {
		deep = do("+", deep, num(1))
	}
	text, e := claims.Print(deep)
	equal(t, "as deep as can be", []any{len(text) > 24, e}, []any{true, api.OK})
	text, e = claims.Print(do("+", deep, num(1)))
	equal(t, "too deep", []any{text, e}, []any{"", api.ErrArg})
	long := do("+", slices.Repeat([]api.Expr{num(1)}, 997)...)
	long.Args[0] = num(100)
	text, e = claims.Print(long)
	equal(t, "1999 bytes", []any{len(text), e}, []any{1999, api.OK})
	long.Args[0] = num(1000)
	text, e = claims.Print(long)
	equal(t, "2000 bytes", []any{len(text), e}, []any{api.MaxFormula, api.OK})
	long.Args[0] = num(10000)
	text, e = claims.Print(long)
	equal(t, "2001 bytes", []any{text, e}, []any{"", api.ErrArg})
	empty := api.Expr{Kind: api.ExNumber, Number: 5, Args: []api.Expr{}, Words: []string{}}
	text, e = claims.Print(do("+", empty, empty))
	equal(t, "empty lists", []any{text, e}, []any{"(+ 5 5)", api.OK})
}

// TestSame: P9.2, each field counts.
func TestSame(t *testing.T) {
	l := oddFormulas()
	l = append(l[:len(l)-1], ask("now"), ask("base", "a"), ask("base", "b"), num(0), num(1), do("+", num(1), num(2)), do("+", num(2), num(1)), do("-", num(1), num(2)))
	for i, a := range l {
		for k, b := range l {
			if claims.Same(a, b) != (i == k) || claims.Same(do("+", num(3), a), do("+", num(3), b)) != (i == k) {
				t.Fatal(i, k, said(a), said(b))
			}
		}
	}
	equal(t, "nil and empty", claims.Same(api.Expr{}, api.Expr{Args: []api.Expr{}, Words: []string{}}), true)
	deep := [2]api.Expr{}
	for i := range deep {
		for range 60000 {
			deep[i] = api.Expr{Kind: api.ExCall, Args: []api.Expr{deep[i]}}
		}
	}
	equal(t, "far too deep", claims.Same(deep[0], deep[1]), true)
	equal(t, "far too deep, and one more", claims.Same(deep[0], api.Expr{Kind: api.ExCall, Args: []api.Expr{deep[1]}}), false)
	text, e := claims.Print(deep[0])
	equal(t, "far too deep", []any{text, e}, []any{"", api.ErrArg})
}

// TestFormulasThereAndBack: P9.4, formulas are read as they were written.
func TestFormulasThereAndBack(t *testing.T) {
	r := rand.New(rand.NewSource(312))
	for range 3000 {
		x := randomTruth(r, wholeContract(), 2+r.Intn(5))
		if r.Intn(2) == 0 {
			x = randomNumber(r, wholeContract(), 1+r.Intn(5))
		}
		text, e := claims.Print(x)
		if len(text) == 0 {
			t.Fatal("Print:", e, said(x))
		}
		y := form(t, text)
		if !reflect.DeepEqual(x, y) || !claims.Same(x, y) {
			t.Fatal(text, said(x), said(y))
		}
	}
}
