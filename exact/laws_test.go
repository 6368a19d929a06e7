package exact_test

import (
	"fmt"
	"math/rand"
	"reflect"
	"slices"
	"strings"
	"testing"

	"underpin/api"
	"underpin/exact"
)

// TestLawsOfArithmetic: P1.12.
func TestLawsOfArithmetic(t *testing.T) {
	r := rand.New(rand.NewSource(20))
	sure := func(a api.Frac, e api.Errno) api.Frac {
		t.Helper()
		equal(t, "error", e, api.OK)
		return a
	}
	for range 2000 {
		a, b, c := frac(randomNumber(r, 25)), frac(randomNumber(r, 25)), frac(randomNumber(r, 25))
		ab, bc := sure(exact.Add(a, b)), sure(exact.Add(b, c))
		equal(t, "sums", sure(exact.Add(ab, c)), sure(exact.Add(a, bc)))
		equal(t, "sums", ab, sure(exact.Add(b, a)))
		equal(t, "difference", sure(exact.Sub(ab, b)), a)
		equal(t, "negative", sure(exact.Add(a, sure(exact.Neg(a)))), api.Frac("0"))
		mab, mbc := sure(exact.Mul(a, b)), sure(exact.Mul(b, c))
		equal(t, "products", sure(exact.Mul(mab, c)), sure(exact.Mul(a, mbc)))
		equal(t, "products", mab, sure(exact.Mul(b, a)))
		equal(t, "both", sure(exact.Mul(a, bc)), sure(exact.Add(mab, sure(exact.Mul(a, c)))))
		if b != "0" {
			equal(t, "quotient", sure(exact.Div(mab, b)), a)
		}
		back, e := exact.Read(string(a))
		equal(t, "read", sure(back, e), a)
		n, _ := exact.Cmp(a, b)
		m, _ := exact.Cmp(ab, sure(exact.Add(b, b)))
		equal(t, "order", n, m)
		whole := sure(exact.Floor(a))
		above, _ := exact.Cmp(whole, a)
		next, _ := exact.Cmp(sure(exact.Add(whole, "1")), a)
		if above > 0 || next <= 0 {
			t.Fatal("floor of", a, whole)
		}
		text, e := exact.Decimal(a, 0)
		equal(t, "decimal without places", sure(api.Frac(text), e), whole)
	}
}

// TestOneKindOneValue: P1.12, rows in another order have the same kind and value, and the same proofs.
func TestOneKindOneValue(t *testing.T) {
	r := rand.New(rand.NewSource(21))
	for range 500 {
		n := 1 + r.Intn(4)
		l, goal := randomRows(r, r.Intn(4*n), n), randomTerms(r, n)
		a, e := exact.Solve(l, goal)
		order := r.Perm(len(l))
		b, f := exact.Solve(some(l, order), goal)
		equal(t, "one kind, one value", []any{a.Kind, a.Value, e}, []any{b.Kind, b.Value, f})
		if b.Weights != nil {
			weights := make([]api.Frac, len(l))
			for i, k := range order {
				weights[k] = b.Weights[i]
			}
			b.Weights = weights
		}
		equal(t, "the other answer", exact.Verify(l, goal, b), api.OK)
	}
}

// TestTextAndBack: P1.12.
func TestTextAndBack(t *testing.T) {
	r := rand.New(rand.NewSource(22))
	for range 500 {
		l := randomRows(r, r.Intn(20), 6)
		text, e := exact.Print(l)
		equal(t, "error", e, api.OK)
		back, line, e := exact.Parse(text)
		equal(t, "parsed", []any{line, e, fmt.Sprint(back)}, []any{0, api.OK, fmt.Sprint(l)})
		equal(t, "twice", reflect.DeepEqual(back, rows(t, text)), true)
	}
}

// TestWhatPointsKeep: P1.12, sums of rows, and what is left by Eliminate.
func TestWhatPointsKeep(t *testing.T) {
	r := rand.New(rand.NewSource(23))
	kept, led := 0, 0
	for range 600 {
		l := randomRows(r, 1+r.Intn(7), 3)
		left, e := exact.Eliminate(l, "x0")
		empty, _, p, _ := exact.Empty(l)
		if !empty {
			w := make([]api.Frac, len(l))
			for i := range w {
				w[i] = api.Frac(fmt.Sprint(r.Intn(4)))
			}
			coefs, bound := weigh(t, l, w)
			for name, coef := range coefs {
				bound.Sub(bound, coef.Mul(coef, sumAt(t, terms(name, "1"), p)))
			}
			equal(t, "a sum of rows is kept", bound.Sign() >= 0, true)
		}
		if e != api.OK {
			continue
		}
		if !empty {
			n, e := exact.Holds(left, p)
			equal(t, "what is left is kept", []any{n, e}, []any{-1, api.OK})
			kept++
		}
		emptyLeft, _, q, e := exact.Empty(left)
		equal(t, "both are empty, or none", emptyLeft, empty)
		if empty {
			continue
		}
		fixed := slices.Clone(l)
		for _, name := range []string{"x1", "x2"} {
			x := sumAt(t, terms(name, "1"), q)
			fixed = append(fixed, api.Row{Terms: terms(name, "1"), Bound: frac(x)}, api.Row{Terms: terms(name, "-1"), Bound: frac(x.Neg(x))})
		}
		if exact.Check(fixed) == api.ErrLimit {
			continue // the point has more digits than rows may have
		}
		yes, _, _, e := exact.Empty(fixed)
		equal(t, "there is a value of the unknown", []any{yes, e}, []any{false, api.OK})
		led++
	}
	if kept < 50 || led < 50 {
		t.Error("too few:", kept, led)
	}
}

// snapshot says all of an argument.
func snapshot(x ...any) string {
	return fmt.Sprintf("%#v", x)
}

// TestArgumentsAndMemory: R4, no argument changes, and results share no memory.
func TestArgumentsAndMemory(t *testing.T) {
	r := rand.New(rand.NewSource(24))
	for range 100 {
		l, goal := randomRows(r, 8, 3), randomTerms(r, 3)
		x := api.Row{Terms: goal, Bound: "1"}
		p := point("x0", "1", "x1", "-1/2")
		w := fracs("1", "0", "2", "0", "0", "0", "0", "0")[:min(8, len(l))]
		before := snapshot(l, goal, x, p, w)
		a, _ := exact.Solve(l, goal)
		exact.Verify(l, goal, a)
		exact.Sum(goal, p)
		exact.Holds(l, p)
		exact.Empty(l)
		exact.Implied(l, x)
		exact.CheckEmpty(l, w)
		exact.CheckImplied(l, x, w)
		exact.Smallest(l)
		exact.Lean(l)
		exact.Corners(l)
		exact.Names(l)
		exact.Print(l)
		left, _ := exact.Eliminate(l, "x2")
		for i := range left {
			left[i].Bound = "7"
			for k := range left[i].Terms {
				left[i].Terms[k] = api.Term{}
			}
		}
		for i := range a.Point {
			a.Point[i] = api.Value{}
		}
		equal(t, "arguments", snapshot(l, goal, x, p, w), before)
		b, _ := exact.Solve(l, goal)
		c, _ := exact.Solve(l, goal)
		equal(t, "twins", snapshot(b), snapshot(c))
		for i := range b.Point {
			b.Point[i] = api.Value{}
		}
		equal(t, "ray", snapshot(b.Ray, b.Weights), snapshot(c.Ray, c.Weights))
	}
	l := rows(t, "1 x 1 y = 3\n")
	l[0].Terms[0].Coef = "5"
	text, _ := exact.Print(l)
	equal(t, "both rows of an equation", text, "5 x 1 y <= 3\n-1 x -1 y <= -3\n")
	corners, _ := exact.Corners(rows(t, "1 x <= 1\n-1 x <= 0\n1 y = 1\n"))
	corners[0][1].Value = "9"
	equal(t, "corners", fmt.Sprint(corners), "[[{x 0} {y 9}] [{x 1} {y 1}]]")
}

// TestNilAndEmpty: R3.
func TestNilAndEmpty(t *testing.T) {
	for _, l := range [][]api.Row{nil, {}} {
		for _, goal := range [][]api.Term{nil, {}} {
			a, e := exact.Solve(l, goal)
			equal(t, "solve", []any{a.Kind, a.Value, len(a.Point), len(a.Weights), e}, []any{api.AnBest, api.Frac("0"), 0, 0, api.OK})
			a.Point, a.Weights, a.Ray = []api.Value{}, []api.Frac{}, []api.Value{}
			equal(t, "verify", exact.Verify(l, goal, a), api.OK)
			a.Point, a.Weights, a.Ray = nil, nil, nil
			equal(t, "verify", exact.Verify(l, goal, a), api.OK)
		}
	}
	yes, _, _, e := exact.Implied([]api.Row{{Terms: []api.Term{}, Bound: "-1"}}, api.Row{Terms: []api.Term{}, Bound: "-3"})
	equal(t, "implied", []any{yes, e}, []any{true, api.OK})
}

// junk makes arguments of any form, some of them good.
type junk struct {
	r     *rand.Rand
	texts []string
}

func (j junk) text() string {
	return j.texts[j.r.Intn(len(j.texts))]
}

func (j junk) number() api.Frac {
	if j.r.Intn(3) > 0 {
		return api.Frac(fmt.Sprint(j.r.Intn(5) - 2))
	}
	return api.Frac(j.text())
}

func (j junk) name() string {
	if j.r.Intn(3) > 0 {
		return fmt.Sprintf("x%d", j.r.Intn(3))
	}
	return j.text()
}

func (j junk) terms() (l []api.Term) {
	for range j.r.Intn(3) {
		l = append(l, api.Term{Name: j.name(), Coef: j.number()})
	}
	return l
}

func (j junk) rows() (l []api.Row) {
	for range j.r.Intn(4) {
		l = append(l, api.Row{Terms: j.terms(), Bound: j.number()})
	}
	return l
}

func (j junk) point() (l []api.Value) {
	for range j.r.Intn(3) {
		l = append(l, api.Value{Name: j.name(), Value: j.number()})
	}
	return l
}

func (j junk) numbers() (l []api.Frac) {
	for range j.r.Intn(4) {
		l = append(l, j.number())
	}
	return l
}

// newJunk makes junk of names, numbers, what looks like them, and texts that are too long.
func newJunk(seed int64) junk {
	return junk{rand.New(rand.NewSource(seed)), []string{
		"", "0", "1", "-1", "1/2", "-7/3", "x", "x1", "X", "-", "/", "1/0", "0/0", "00", "2/4", "\x00\xff", "é", "<=", "1 x <= 1", " ", "\n",
		"999999999999", "1000000000000", strings.Repeat("9", 2*api.MaxDigits), strings.Repeat("a", api.MaxName+1), "1/" + most,
	}}
}

// alone fails if there is a result beside an error, which is the last one of the results.
func alone(t *testing.T, what string, results ...any) {
	t.Helper()
	e := results[len(results)-1].(api.Errno)
	for _, result := range results[:len(results)-1] {
		if e != api.OK && !reflect.ValueOf(result).IsZero() {
			t.Fatal(what, "has a result beside the error", e, result)
		}
	}
}

// TestAnyNumbers: P0.1 and R8, whatever is given, each function of numbers ends, and has nothing beside an error.
func TestAnyNumbers(t *testing.T) {
	j := newJunk(25)
	check := func(what string) func(c api.Frac, e api.Errno) {
		return func(c api.Frac, e api.Errno) {
			t.Helper()
			alone(t, what, c, e)
			equal(t, what, exact.Valid(c), e == api.OK)
		}
	}
	for range 1000 {
		a, b := j.number(), j.number()
		check("Read")(exact.Read(j.text()))
		check("Add")(exact.Add(a, b))
		check("Sub")(exact.Sub(a, b))
		check("Mul")(exact.Mul(a, b))
		check("Div")(exact.Div(a, b))
		check("Neg")(exact.Neg(a))
		check("Floor")(exact.Floor(a))
		check("Sum")(exact.Sum(j.terms(), j.point()))
		n, e := exact.Cmp(a, b)
		alone(t, "Cmp", n, e)
		s, e := exact.Decimal(a, j.r.Intn(60)-5)
		alone(t, "Decimal", s, e)
	}
}

// TestAnyRows: P0.1 and R8, the same of the functions of rows.
func TestAnyRows(t *testing.T) {
	j := newJunk(26)
	for range 1000 {
		l, x := j.rows(), api.Row{Terms: j.terms(), Bound: j.number()}
		names, e := exact.Names(l)
		alone(t, "Names", names, e)
		equal(t, "Check", exact.Check(l), e)
		n, e := exact.Holds(l, j.point())
		alone(t, "Holds", n, e)
		s, e := exact.Print(l)
		alone(t, "Print", s, e)
		back, _, e := exact.Parse(j.text() + "\n" + j.text())
		alone(t, "Parse", back, e)
		left, e := exact.Eliminate(l, j.name())
		alone(t, "Eliminate", left, e)
		answer, e := exact.Solve(l, x.Terms)
		alone(t, "Solve", answer, e)
		exact.Verify(l, x.Terms, api.Answer{Kind: api.AnswerKind(j.r.Intn(6)), Value: j.number(), Point: j.point(), Ray: j.point(), Weights: j.numbers()})
		yes, w, q, e := exact.Empty(l)
		alone(t, "Empty", yes, w, q, e)
		yes, w, q, e = exact.Implied(l, x)
		alone(t, "Implied", yes, w, q, e)
		yes, e = exact.CheckEmpty(l, j.numbers())
		alone(t, "CheckEmpty", yes, e)
		yes, e = exact.CheckImplied(l, x, j.numbers())
		alone(t, "CheckImplied", yes, e)
		k, e := exact.Smallest(l)
		alone(t, "Smallest", k, e)
		k, e = exact.Lean(l)
		alone(t, "Lean", k, e)
		corners, e := exact.Corners(l)
		alone(t, "Corners", corners, e)
	}
}
