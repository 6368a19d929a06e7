package exact_test

import (
	"fmt"
	"math/big"
	"math/rand"
	"slices"
	"testing"

	"underpin/api"
	"underpin/exact"
)

// leftOver takes one number after the other away, from the first to the last, if it may be.
func leftOver(n int, may func(others []int, i int) bool) []int {
	var left []int
	for i := range n {
		left = append(left, i)
	}
	for i := range n {
		others := slices.DeleteFunc(slices.Clone(left), func(k int) bool { return k == i })
		if may(others, i) {
			left = others
		}
	}
	return left
}

// some returns the rows with these numbers.
func some(l []api.Row, numbers []int) []api.Row {
	var out []api.Row
	for _, k := range numbers {
		out = append(out, l[k])
	}
	return out
}

// TestSmallest: P1.10.
func TestSmallest(t *testing.T) {
	for text, want := range map[string][]int{
		"1 y <= 5\n1 x <= 1\n-1 x <= -2\n":             {1, 2},
		"1 x <= 1\n-1 x <= -2\n1 x <= 0\n":             {1, 2}, // the first that may go, goes
		"<= -1\n<= -1\n":                               {1},
		"<= -1\n1 x <= 0\n":                            {0},
		"1 x <= 0\n<= -1\n1 x <= -1\n-1 x <= 0\n":      {2, 3},
		"1 x 1 y <= 1\n-1 x <= -1\n-1 y <= -1\n<= 0\n": {0, 1, 2},
		"1 x = 1\n1 x = 2\n":                           {0, 3},
	} {
		got, e := exact.Smallest(rows(t, text))
		equal(t, text, e, api.OK)
		equal(t, text, got, want)
	}
	for _, text := range []string{"", "<= 0\n", "1 x <= 1\n-1 x <= -1\n"} {
		got, e := exact.Smallest(rows(t, text))
		equal(t, text, []any{len(got), e}, []any{0, api.ErrNone})
	}
	r := rand.New(rand.NewSource(11))
	found := 0
	for range 500 {
		n := 1 + r.Intn(4)
		l := randomRows(r, r.Intn(5*n), n)
		got, e := exact.Smallest(l)
		if yes, _, _, _ := exact.Empty(l); !yes {
			equal(t, "not empty", []any{len(got), e}, []any{0, api.ErrNone})
			continue
		}
		found++
		want := leftOver(len(l), func(others []int, i int) bool {
			yes, _, _, _ := exact.Empty(some(l, others))
			return yes
		})
		equal(t, "error", e, api.OK)
		equal(t, fmt.Sprint(l), got, want)
	}
	if found < 100 {
		t.Error("too few that are empty:", found)
	}
}

// TestLean: P1.10.
func TestLean(t *testing.T) {
	for text, want := range map[string][]int{
		"":                                              {},
		"<= 0\n<= 5\n":                                  {},
		"1 x <= 5\n1 x <= 1\n1 x <= 1\n":                {2},
		"1 x <= 1\n1 x <= 5\n":                          {0},
		"1 x <= 1\n-1 x <= 1\n":                         {0, 1},
		"1 x <= 1\n2 x <= 2\n1/3 x <= 1/3\n":            {2},
		"1 x 1 y <= 2\n1 x <= 1\n1 y <= 1\n":            {1, 2},
		"1 x = 1\n1 y = 2\n1 x 1 y = 3\n":               {2, 3, 4, 5},
		"1 x <= 1\n-1 x <= -2\n1 y <= 0\n":              {0, 1}, // empty rows imply any row
		"<= -1\n<= -2\n1 x <= 0\n":                      {1},
		"1 x -1 y <= 0\n1 y -1 z <= 0\n1 x -1 z <= 0\n": {0, 1},
	} {
		got, e := exact.Lean(rows(t, text))
		equal(t, text, e, api.OK)
		equal(t, text, got, want)
	}
	r := rand.New(rand.NewSource(12))
	taken := 0
	for range 500 {
		n := 1 + r.Intn(4)
		l := randomRows(r, r.Intn(5*n), n)
		got, e := exact.Lean(l)
		want := leftOver(len(l), func(others []int, i int) bool {
			yes, _, _, _ := exact.Implied(some(l, others), l[i])
			return yes
		})
		equal(t, "error", e, api.OK)
		equal(t, fmt.Sprint(l), got, want)
		taken += len(l) - len(got)
	}
	if taken < 500 {
		t.Error("too few that are implied:", taken)
	}
}

// TestLeanMany: P1.10, many rows of which few are needed.
func TestLeanMany(t *testing.T) {
	var l []api.Row
	for i := range api.MaxRows - 4 {
		l = append(l, api.Row{Terms: terms("x", fmt.Sprint(1+i%9), "y", fmt.Sprint(1+i%7)), Bound: api.Frac(fmt.Sprint(100 + i))})
	}
	l = append(l, rows(t, "1 x <= 1\n-1 x <= 0\n1 y <= 1\n-1 y <= 0\n")...)
	got, e := exact.Lean(l)
	equal(t, "error", e, api.OK)
	equal(t, "rows", got, []int{796, 797, 798, 799})
	got, e = exact.Smallest(append(l[:799:799], row(t, "-1 x -1 y <= -3\n")))
	equal(t, "error", e, api.OK)
	equal(t, "rows", got, []int{796, 798, 799})
}

// TestSetErrors: P1.10 and P1.11.
func TestSetErrors(t *testing.T) {
	check := func(l []api.Row, want api.Errno) {
		t.Helper()
		a, e := exact.Smallest(l)
		b, f := exact.Lean(l)
		c, g := exact.Corners(l)
		equal(t, "errors", []any{len(a), len(b), len(c), e, f, g}, []any{0, 0, 0, want, want, want})
	}
	for _, c := range badTerms {
		check([]api.Row{{Terms: c.terms, Bound: "1"}}, c.want)
	}
	check(manyRows(801, 1), api.ErrLimit)
	check(manyRows(81, 81), api.ErrLimit)
}

// TestCorners: P1.11.
func TestCorners(t *testing.T) {
	for _, c := range []struct {
		text, want string
		e          api.Errno
	}{
		{"1 x <= 1\n-1 x <= 0\n1 y <= 1\n-1 y <= 0\n", "(0 0) (0 1) (1 0) (1 1) ", api.OK},
		{"1 x 1 y <= 2\n-1 x <= 0\n-1 y <= 0\n", "(0 0) (0 2) (2 0) ", api.OK},
		{"", "() ", api.OK},
		{"<= 0\n<= 5\n", "() ", api.OK},
		{"<= -1\n", "", api.OK},
		{"1 x <= 1\n-1 x <= -2\n", "", api.OK},
		{"1 x <= 1\n-1 x <= -2\n1 y <= 0\n", "", api.OK}, // empty comes ahead of unbounded
		{"1 a <= 1\n1 b <= 1\n1 c <= 1\n1 d <= 1\n<= -1\n", "", api.ErrScope},
		{"1 x <= 1\n", "", api.ErrScope},
		{"-1 x <= 1\n", "", api.ErrScope},
		{"1 x <= 1\n-1 x <= 0\n1 y <= 1\n", "", api.ErrScope},
		{"1 x -1 y <= 1\n-1 x 1 y <= 1\n", "", api.ErrScope},
		{"1 x = 1/3\n", "(1/3) ", api.OK},
		{"1 x <= 5\n-1 x <= 1\n1 x <= 9\n", "(-1) (5) ", api.OK},
		{"1 x 1 y = 1\n-1 x <= 0\n-1 y <= 0\n", "(0 1) (1 0) ", api.OK},
		{"1 x 1 y 1 z = 1\n-1 x <= 0\n-1 y <= 0\n-1 z <= 0\n", "(0 0 1) (0 1 0) (1 0 0) ", api.OK},
		{"1 x = 1\n1 y = 2\n1 z = 3\n", "(1 2 3) ", api.OK},
		{"1 x 1 y <= 1\n1 x -1 y <= 1\n-1 x 1 y <= 1\n-1 x -1 y <= 1\n1 x <= 1\n", "(-1 0) (0 -1) (0 1) (1 0) ", api.OK},
		// a pyramid, on whose top four sides meet, and a face that touches it there
		{"1 x 1 z <= 1\n-1 x 1 z <= 1\n1 y 1 z <= 1\n-1 y 1 z <= 1\n-1 z <= 0\n1 z <= 1\n", "(-1 -1 0) (-1 1 0) (0 0 1) (1 -1 0) (1 1 0) ", api.OK},
		{"1 x 1 y 1 z <= 1\n1 x 1 y -1 z <= 1\n1 x -1 y 1 z <= 1\n1 x -1 y -1 z <= 1\n-1 x 1 y 1 z <= 1\n-1 x 1 y -1 z <= 1\n-1 x -1 y 1 z <= 1\n-1 x -1 y -1 z <= 1\n", "(-1 0 0) (0 -1 0) (0 0 -1) (0 0 1) (0 1 0) (1 0 0) ", api.OK},
	} {
		l, e := exact.Corners(rows(t, c.text))
		equal(t, c.text, e, c.e)
		equal(t, c.text, cornerText(l), c.want)
	}
	l, _ := exact.Corners(rows(t, "1 y <= 1\n-1 y <= 0\n1 b = 2\n"))
	equal(t, "names", fmt.Sprint(l), "[[{b 2} {y 0}] [{b 2} {y 1}]]")
}

// cornerText writes the values of corners.
func cornerText(l [][]api.Value) string {
	text := ""
	for _, p := range l {
		text += "("
		for i, v := range p {
			if i > 0 {
				text += " "
			}
			text += string(v.Value)
		}
		text += ") "
	}
	return text
}

// TestCornersRandom: P1.11, by its words: each corner is where as many rows as there are unknowns meet in one point.
func TestCornersRandom(t *testing.T) {
	r := rand.New(rand.NewSource(13))
	for i := range 300 {
		n := 1 + r.Intn(3)
		l := randomRows(r, r.Intn(10), n)
		for k := range n {
			name := fmt.Sprintf("x%d", k)
			l = append(l, api.Row{Terms: terms(name, "1"), Bound: api.Frac(fmt.Sprint(r.Intn(4)))}, api.Row{Terms: terms(name, "-1"), Bound: api.Frac(fmt.Sprint(r.Intn(3)))})
		}
		r.Shuffle(len(l), func(i, k int) { l[i], l[k] = l[k], l[i] })
		names, _ := exact.Names(l)
		var want [][]api.Value
		for _, p := range meetings(t, l, names) {
			if keepsAll(t, l, p) {
				want = append(want, p)
			}
		}
		slices.SortFunc(want, func(p, q []api.Value) int { return comparePoints(t, p, q) })
		want = slices.CompactFunc(want, func(p, q []api.Value) bool { return comparePoints(t, p, q) == 0 })
		got, e := exact.Corners(l)
		equal(t, "error", e, api.OK)
		text, _ := exact.Print(l)
		equal(t, fmt.Sprint(i, "\n", text), cornerText(got), cornerText(want))
	}
}

// comparePoints compares two points that name the same unknowns.
func comparePoints(t testing.TB, p, q []api.Value) int {
	t.Helper()
	for i := range p {
		if c := rat(t, p[i].Value).Cmp(rat(t, q[i].Value)); c != 0 {
			return c
		}
	}
	return 0
}

// meetings returns the points where as many rows as there are unknowns are equal to their bounds, and at no other point.
func meetings(t testing.TB, l []api.Row, names []string) [][]api.Value {
	t.Helper()
	var points [][]api.Value
	var choose func(from int, chosen []api.Row)
	choose = func(from int, chosen []api.Row) {
		if len(chosen) == len(names) {
			if p := meeting(t, chosen, names); p != nil {
				points = append(points, p)
			}
			return
		}
		for i := from; i < len(l); i++ {
			choose(i+1, append(slices.Clone(chosen), l[i]))
		}
	}
	choose(0, nil)
	return points
}

// meeting returns the only point at which rows are equal to their bounds; nil if there is none, or more (by Cramer).
func meeting(t testing.TB, l []api.Row, names []string) []api.Value {
	t.Helper()
	n := len(names)
	matrix := make([][]*big.Rat, n)
	bounds := make([]*big.Rat, n)
	for i, x := range l {
		for _, name := range names {
			matrix[i] = append(matrix[i], sumAt(t, x.Terms, point(name, "1")))
		}
		bounds[i] = rat(t, x.Bound)
	}
	whole := determinant(matrix)
	if whole.Sign() == 0 {
		return nil
	}
	var p []api.Value
	for k, name := range names {
		changed := make([][]*big.Rat, n)
		for i := range matrix {
			changed[i] = slices.Clone(matrix[i])
			changed[i][k] = bounds[i]
		}
		x := determinant(changed)
		p = append(p, api.Value{Name: name, Value: frac(x.Quo(x, whole))})
	}
	return p
}

// determinant is developed by the first row.
func determinant(m [][]*big.Rat) *big.Rat {
	if len(m) == 0 {
		return big.NewRat(1, 1)
	}
	sum := new(big.Rat)
	for k, x := range m[0] {
		var rest [][]*big.Rat
		for _, line := range m[1:] {
			rest = append(rest, slices.Concat(line[:k], line[k+1:]))
		}
		part := determinant(rest)
		part.Mul(part, x)
		if k%2 == 1 {
			part.Neg(part)
		}
		sum.Add(sum, part)
	}
	return sum
}

// TestCornersMany: P1.11, a body that 800 rows bound.
func TestCornersMany(t *testing.T) {
	r := rand.New(rand.NewSource(14))
	l := rows(t, "1 x <= 1000\n-1 x <= 1000\n1 y <= 1000\n-1 y <= 1000\n1 z <= 1000\n-1 z <= 1000\n")
	for len(l) < api.MaxRows {
		x := api.Row{Bound: "10000"}
		for _, name := range []string{"x", "y", "z"} {
			x.Terms = append(x.Terms, api.Term{Name: name, Coef: api.Frac(fmt.Sprint(1 + r.Intn(100) - 101*r.Intn(2)))})
		}
		l = append(l, x)
	}
	got, e := exact.Corners(l)
	equal(t, "error", e, api.OK)
	if len(got) < 20 {
		t.Error("too few corners:", len(got))
	}
	for i, p := range got {
		if n, e := exact.Holds(l, p); n != -1 || e != api.OK || i > 0 && comparePoints(t, got[i-1], p) >= 0 {
			t.Fatal(p, n, e)
		}
	}
	// the greatest value of any sum is that of a corner
	for range 20 {
		goal := terms("x", fmt.Sprint(1+r.Intn(50)), "y", fmt.Sprint(-1-r.Intn(50)), "z", fmt.Sprint(1+r.Intn(50)))
		a, _ := exact.Solve(l, goal)
		best := sumAt(t, goal, got[0])
		for _, p := range got {
			if x := sumAt(t, goal, p); x.Cmp(best) > 0 {
				best = x
			}
		}
		equal(t, "greatest", frac(best), a.Value)
	}
}
