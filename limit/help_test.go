package limit_test

import (
	"fmt"
	"math/big"
	"math/rand"
	"reflect"
	"slices"
	"strings"
	"testing"

	"underpin/api"
	"underpin/exact"
	"underpin/limit"
)

// example is the square Q of the chapter.
func example() api.Mesh {
	return api.Mesh{
		Soils: []api.Soil{{Cohesion: "1", Sin: "0", Cos: "1", Weight: "0"}},
		Spots: []api.Spot{{X: 0, Y: 0}, {X: 1, Y: 0}, {X: 1, Y: 1}, {X: 0, Y: 1}},
		Faces: []api.Face{{A: 0, B: 1, C: 2}, {A: 0, B: 2, C: 3}},
		Sides: []api.Side{{A: 0, B: 1, Fixed: true}, {A: 2, B: 3, LivePress: "1"}},
	}
}

// copied is a mesh with lists of its own.
func copied(m api.Mesh) api.Mesh {
	return api.Mesh{Soils: slices.Clone(m.Soils), Spots: slices.Clone(m.Spots), Faces: slices.Clone(m.Faces), Sides: slices.Clone(m.Sides)}
}

// point is a point from a text of names and values.
func point(text string) []api.Value {
	var l []api.Value
	words := strings.Fields(text)
	for i := 0; i+1 < len(words); i += 2 {
		l = append(l, api.Value{Name: words[i], Value: api.Frac(words[i+1])})
	}
	return l
}

// equal fails unless both are equal (nil and empty lists are).
func equal(t testing.TB, what string, got, want any) {
	t.Helper()
	g, w := reflect.ValueOf(got), reflect.ValueOf(want)
	if g.Kind() == reflect.Slice && g.Len() == 0 && w.Len() == 0 {
		return
	}
	if !reflect.DeepEqual(got, want) {
		t.Fatalf("%s: got %.2000s, want %.2000s", what, fmt.Sprint(got), fmt.Sprint(want))
	}
}

// said writes anything: nil and empty lists alike.
func said(l ...any) string {
	return fmt.Sprintf("%q", fmt.Sprint(l...))
}

// Numbers of MaxDigits digits, and of just as many as numbers in rows may have.
var (
	most   = strings.Repeat("9", api.MaxDigits)
	most12 = "999999999999"
	over12 = "1000000000000"
)

// rat returns a number as math/big has it: 0 if it is empty.
func rat(a api.Frac) *big.Rat {
	if a == "" {
		return new(big.Rat)
	}
	x, ok := new(big.Rat).SetString(string(a))
	if !ok {
		panic("no number: " + string(a))
	}
	return x
}

// frac returns a number of math/big as text.
func frac(x *big.Rat) api.Frac {
	return api.Frac(x.RatString())
}

// compared is -1, 0 or 1 as one number is less than, equal to, or greater than another one.
func compared(a, b api.Frac) int {
	return rat(a).Cmp(rat(b))
}

// negative returns minus a number.
func negative(a api.Frac) api.Frac {
	return frac(new(big.Rat).Neg(rat(a)))
}

// plus, minus and times reckon with numbers.
func plus(l ...*big.Rat) *big.Rat {
	sum := new(big.Rat)
	for _, x := range l {
		sum.Add(sum, x)
	}
	return sum
}

func minus(a, b *big.Rat) *big.Rat {
	return new(big.Rat).Sub(a, b)
}

func times(l ...*big.Rat) *big.Rat {
	product := big.NewRat(1, 1)
	for _, x := range l {
		product.Mul(product, x)
	}
	return product
}

func number(n int) *big.Rat {
	return big.NewRat(int64(n), 1)
}

// jointsOf tells the joints of a mesh, by the words of the chapter.
func jointsOf(m api.Mesh) []api.Joint {
	ends := func(f api.Face) [][2]int { return [][2]int{{f.A, f.B}, {f.B, f.C}, {f.C, f.A}} }
	has := func(f api.Face, a, b int) bool { return slices.Contains(ends(f), [2]int{a, b}) }
	var l []api.Joint
	for i, f := range m.Faces {
	edges:
		for _, g := range ends(f) {
			j := api.Joint{A: g[0], B: g[1], Left: i, Right: -1}
			for k, other := range m.Faces {
				if has(other, g[1], g[0]) && k < i {
					continue edges
				}
				if has(other, g[1], g[0]) {
					j.Right = k
				}
			}
			l = append(l, j)
		}
	}
	return l
}

// sideOf returns what a mesh says of a joint, and whether it says anything.
func sideOf(m api.Mesh, j api.Joint) (api.Side, bool) {
	for _, s := range m.Sides {
		if s.A == j.A && s.B == j.B {
			return s, true
		}
	}
	return api.Side{}, false
}

// mustMost returns the answers of Most, or of Least, once they are verified.
func mustMost(t testing.TB, m api.Mesh, sense int) (lower, upper api.Answer) {
	t.Helper()
	rows, goal, e := limit.Lower(m)
	equal(t, "Lower", e, api.OK)
	above, aim, e := limit.Upper(m, sense)
	equal(t, "Upper", e, api.OK)
	if sense == 1 {
		lower, upper, e = limit.Most(m)
	} else {
		lower, upper, e = limit.Least(m)
		goal[0].Coef = "-1"
	}
	equal(t, "both", e, api.OK)
	equal(t, "lower", exact.Verify(rows, goal, lower), api.OK)
	equal(t, "upper", exact.Verify(above, aim, upper), api.OK)
	return lower, upper
}

// soils are some that may be: the angle of friction is that of a triangle in whole numbers.
func soils(r *rand.Rand, many int, weight api.Frac) []api.Soil {
	var l []api.Soil
	angles := [][2]api.Frac{{"0", "1"}, {"3/5", "4/5"}, {"5/13", "12/13"}, {"4/5", "3/5"}, {"7/25", "24/25"}, {"20/101", "99/101"}}
	for range many {
		angle := angles[r.Intn(len(angles))]
		l = append(l, api.Soil{Cohesion: frac(big.NewRat(int64(r.Intn(30)), int64(1+r.Intn(3)))), Sin: angle[0], Cos: angle[1], Weight: weight})
	}
	return l
}

// block is a section of ground of so many cells, of two triangles each: fixed below, loaded above. Some more sides are
// fixed or loaded, if that is wanted.
func block(r *rand.Rand, wide, high int, rough bool) api.Mesh {
	m := api.Mesh{Soils: soils(r, 1+r.Intn(3), frac(big.NewRat(int64(r.Intn(5)), int64(1+r.Intn(4)))))}
	for y := range high + 1 {
		for x := range wide + 1 {
			p := api.Spot{X: 10*x - 15, Y: 10*y - 10}
			if x > 0 && x < wide {
				p.X += r.Intn(9) - 4
			}
			if y > 0 && y < high {
				p.Y += r.Intn(9) - 4
			}
			m.Spots = append(m.Spots, p)
		}
	}
	for y := range high {
		for x := range wide {
			a, b, c, d := y*(wide+1)+x, y*(wide+1)+x+1, (y+1)*(wide+1)+x+1, (y+1)*(wide+1)+x
			one, other := api.Face{A: a, B: b, C: c}, api.Face{A: a, B: c, C: d}
			if r.Intn(2) == 0 {
				one, other = api.Face{A: a, B: b, C: d}, api.Face{A: b, B: c, C: d}
			}
			one.Soil, other.Soil = r.Intn(len(m.Soils)), r.Intn(len(m.Soils))
			m.Faces = append(m.Faces, one, other)
		}
	}
	r.Shuffle(len(m.Faces), func(i, j int) { m.Faces[i], m.Faces[j] = m.Faces[j], m.Faces[i] })
	for _, j := range jointsOf(m) {
		s := api.Side{A: j.A, B: j.B}
		switch a, b := m.Spots[j.A], m.Spots[j.B]; {
		case j.Right >= 0:
			continue
		case a.Y == b.Y && a.Y == -10:
			s.Fixed = true
		case a.Y == b.Y:
			s.LivePress = "1"
		case !rough:
			continue
		}
		if rough && !s.Fixed {
			s = load(r, s)
		}
		m.Sides = append(m.Sides, s)
	}
	r.Shuffle(len(m.Sides), func(i, j int) { m.Sides[i], m.Sides[j] = m.Sides[j], m.Sides[i] })
	return m
}

// load puts any loads on a side, or fixes it.
func load(r *rand.Rand, s api.Side) api.Side {
	if r.Intn(5) == 0 {
		return api.Side{A: s.A, B: s.B, Fixed: true}
	}
	for _, a := range []*api.Frac{&s.Press, &s.Shear, &s.LivePress, &s.LiveShear} {
		if r.Intn(2) == 0 {
			*a = frac(big.NewRat(int64(r.Intn(9)-4), int64(1+r.Intn(3))))
		}
	}
	return s
}

// tangle is any triangles that may be: they overlap, and soils have any weights.
func tangle(r *rand.Rand, points, triangles int) api.Mesh {
	m := api.Mesh{Soils: soils(r, 1+r.Intn(6), "0")}
	for i := range m.Soils {
		m.Soils[i].Weight = frac(big.NewRat(int64(r.Intn(9)), int64(1+r.Intn(4))))
	}
	for len(m.Spots) < points {
		p := api.Spot{X: r.Intn(9) - 4, Y: r.Intn(9) - 4}
		if !slices.Contains(m.Spots, p) {
			m.Spots = append(m.Spots, p)
		}
	}
	for range 30 * triangles {
		if len(m.Faces) == triangles {
			break
		}
		with := m
		with.Faces = append(slices.Clone(m.Faces), api.Face{A: r.Intn(points), B: r.Intn(points), C: r.Intn(points), Soil: r.Intn(len(m.Soils))})
		if limit.Check(with) == api.OK {
			m = with
		}
	}
	for _, j := range jointsOf(m) {
		if j.Right < 0 && r.Intn(3) > 0 && len(m.Sides) < api.MaxSides {
			m.Sides = append(m.Sides, load(r, api.Side{A: j.A, B: j.B}))
		}
	}
	r.Shuffle(len(m.Sides), func(i, j int) { m.Sides[i], m.Sides[j] = m.Sides[j], m.Sides[i] })
	return m
}
