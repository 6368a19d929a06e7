package limit_test

import (
	"fmt"
	"math/rand"
	"slices"
	"testing"

	"underpin/api"
	"underpin/limit"
)

// wrongs are changes of the example, part by part in the order of Check, with the error that each one makes.
var wrongs = []struct {
	part, what string
	change     func(m *api.Mesh)
	want       api.Errno
}{
	{"soils", "7 soils", func(m *api.Mesh) { m.Soils = slices.Repeat(m.Soils, 7) }, api.ErrLimit},
	{"soils", "7 soils that are none", func(m *api.Mesh) { m.Soils = make([]api.Soil, 7) }, api.ErrLimit},
	{"soils", "nothing in it", func(m *api.Mesh) { m.Soils[0] = api.Soil{} }, api.ErrForm},
	{"soils", "Cohesion no number", func(m *api.Mesh) { m.Soils[0] = api.Soil{Cohesion: "x", Sin: "10000", Cos: "-1", Weight: "-1"} }, api.ErrForm},
	{"soils", "Cohesion too long", func(m *api.Mesh) { m.Soils[0] = api.Soil{Cohesion: "10000", Sin: "x", Cos: "-1", Weight: "-1"} }, api.ErrLimit},
	{"soils", "Sin no number", func(m *api.Mesh) { m.Soils[0] = api.Soil{Cohesion: "-1", Sin: "+1", Cos: "10000", Weight: "-1"} }, api.ErrForm},
	{"soils", "Sin too long", func(m *api.Mesh) { m.Soils[0] = api.Soil{Cohesion: "-1", Sin: "1/10000", Cos: "x", Weight: "-1"} }, api.ErrLimit},
	{"soils", "Cos no number", func(m *api.Mesh) { m.Soils[0] = api.Soil{Cohesion: "-1", Sin: "3", Cos: "", Weight: "10000"} }, api.ErrForm},
	{"soils", "Cos too long", func(m *api.Mesh) { m.Soils[0] = api.Soil{Cohesion: "-1", Sin: "3", Cos: "-10000", Weight: "x"} }, api.ErrLimit},
	{"soils", "Weight no number", func(m *api.Mesh) { m.Soils[0] = api.Soil{Cohesion: "-1", Sin: "-1", Cos: "0", Weight: "1.5"} }, api.ErrForm},
	{"soils", "Weight too long", func(m *api.Mesh) { m.Soils[0] = api.Soil{Cohesion: "-1", Sin: "-1", Cos: "0", Weight: "9999/10000"} }, api.ErrLimit},
	{"soils", "Cohesion below 0", func(m *api.Mesh) { m.Soils[0].Cohesion = "-1/2" }, api.ErrArg},
	{"soils", "Sin below 0", func(m *api.Mesh) { m.Soils[0].Sin, m.Soils[0].Cos = "-3/5", "4/5" }, api.ErrArg},
	{"soils", "Weight below 0", func(m *api.Mesh) { m.Soils[0].Weight = "-1/9999" }, api.ErrArg},
	{"soils", "Cos 0", func(m *api.Mesh) { m.Soils[0].Sin, m.Soils[0].Cos = "1", "0" }, api.ErrArg},
	{"soils", "Cos below 0", func(m *api.Mesh) { m.Soils[0].Sin, m.Soils[0].Cos = "3/5", "-4/5" }, api.ErrArg},
	{"soils", "no angle", func(m *api.Mesh) { m.Soils[0].Sin = "1" }, api.ErrArg},
	{"soils", "nearly an angle", func(m *api.Mesh) { m.Soils[0].Sin, m.Soils[0].Cos = "3/5", "7999/9999" }, api.ErrArg},
	{"soils", "less than an angle", func(m *api.Mesh) { m.Soils[0].Cos = "1/2" }, api.ErrArg},
	{"points", "17 points", func(m *api.Mesh) { m.Spots = make([]api.Spot, 17) }, api.ErrLimit},
	{"points", "X too far", func(m *api.Mesh) { m.Spots[1].X = 1001 }, api.ErrArg},
	{"points", "X too far back", func(m *api.Mesh) { m.Spots[1].X = -1001 }, api.ErrArg},
	{"points", "Y too far", func(m *api.Mesh) { m.Spots[2].Y = 1001 }, api.ErrArg},
	{"points", "Y too far down", func(m *api.Mesh) { m.Spots[3].Y = -1 << 63 }, api.ErrArg},
	{"points", "too far, and twice", func(m *api.Mesh) { m.Spots = []api.Spot{{X: 1 << 62}, {X: 1 << 62}} }, api.ErrArg},
	{"points", "twice", func(m *api.Mesh) { m.Spots[3] = m.Spots[0] }, api.ErrTwice},
	{"triangles", "13 triangles", func(m *api.Mesh) { m.Faces = slices.Repeat(m.Faces[:1], 13) }, api.ErrLimit},
	{"triangles", "none", func(m *api.Mesh) { m.Faces = nil }, api.ErrArg},
	{"triangles", "empty", func(m *api.Mesh) { m.Faces = []api.Face{} }, api.ErrArg},
	{"triangles", "A -1", func(m *api.Mesh) { m.Faces[1].A = -1 }, api.ErrNone},
	{"triangles", "A 4", func(m *api.Mesh) { m.Faces[1].A = 4 }, api.ErrNone},
	{"triangles", "B -1", func(m *api.Mesh) { m.Faces[1].B = -1 << 63 }, api.ErrNone},
	{"triangles", "B 4", func(m *api.Mesh) { m.Faces[1].B = 4 }, api.ErrNone},
	{"triangles", "C -1", func(m *api.Mesh) { m.Faces[1].C = -1 }, api.ErrNone},
	{"triangles", "C 4", func(m *api.Mesh) { m.Faces[1].C = 1<<63 - 1 }, api.ErrNone},
	{"triangles", "Soil -1", func(m *api.Mesh) { m.Faces[0].Soil = -1 }, api.ErrNone},
	{"triangles", "Soil 1, and clockwise", func(m *api.Mesh) { m.Faces[0] = api.Face{A: 0, B: 2, C: 1, Soil: 1} }, api.ErrNone},
	{"triangles", "clockwise", func(m *api.Mesh) { m.Faces[0] = api.Face{A: 0, B: 2, C: 1} }, api.ErrArg},
	{"triangles", "one point twice", func(m *api.Mesh) { m.Faces[0] = api.Face{A: 0, B: 1, C: 1} }, api.ErrArg},
	{"triangles", "one point three times", func(m *api.Mesh) { m.Faces[0] = api.Face{A: 2, B: 2, C: 2} }, api.ErrArg},
	{"triangles", "in one line", func(m *api.Mesh) { m.Spots[2] = api.Spot{X: 2, Y: 0} }, api.ErrArg},
	{"triangles", "an edge twice, and clockwise", func(m *api.Mesh) { m.Faces[1] = api.Face{A: 0, B: 2, C: 1} }, api.ErrArg},
	{"triangles", "the first edge twice", func(m *api.Mesh) { m.Faces[1] = api.Face{A: 0, B: 1, C: 3} }, api.ErrTwice},
	{"triangles", "the second edge twice", func(m *api.Mesh) { m.Faces[1] = api.Face{A: 3, B: 0, C: 1} }, api.ErrTwice},
	{"triangles", "the third edge twice", func(m *api.Mesh) { m.Faces[1] = api.Face{A: 1, B: 3, C: 0} }, api.ErrTwice},
	{"triangles", "a triangle twice", func(m *api.Mesh) { m.Faces[1] = api.Face{A: 1, B: 2, C: 0} }, api.ErrTwice},
	{"sides", "25 sides", func(m *api.Mesh) { m.Sides = make([]api.Side, 25) }, api.ErrLimit},
	{"sides", "no points", func(m *api.Mesh) { m.Sides[1] = api.Side{A: -1, B: 1 << 62, Press: "x"} }, api.ErrNone},
	{"sides", "no edge", func(m *api.Mesh) { m.Sides[1] = api.Side{A: 1, B: 3} }, api.ErrNone},
	{"sides", "one point", func(m *api.Mesh) { m.Sides[1] = api.Side{A: 1, B: 1} }, api.ErrNone},
	{"sides", "the other way round", func(m *api.Mesh) { m.Sides[1] = api.Side{A: 3, B: 2} }, api.ErrNone},
	{"sides", "a joint with Right", func(m *api.Mesh) { m.Sides[1] = api.Side{A: 2, B: 0} }, api.ErrNone},
	{"sides", "a joint with Right, back", func(m *api.Mesh) { m.Sides[1] = api.Side{A: 0, B: 2} }, api.ErrNone},
	{"sides", "twice", func(m *api.Mesh) { m.Sides[1] = api.Side{A: 0, B: 1, Press: "x"} }, api.ErrTwice},
	{"sides", "fixed twice", func(m *api.Mesh) { m.Sides[1] = m.Sides[0] }, api.ErrTwice},
	{"sides", "Press no number", func(m *api.Mesh) { m.Sides[0].Press, m.Sides[0].Shear = "x", "10000" }, api.ErrForm},
	{"sides", "Press too long", func(m *api.Mesh) { m.Sides[0].Press, m.Sides[0].Shear = "10000", "x" }, api.ErrLimit},
	{"sides", "Shear no number", func(m *api.Mesh) { m.Sides[0].Shear, m.Sides[0].LivePress = "2/4", "10000" }, api.ErrForm},
	{"sides", "Shear too long", func(m *api.Mesh) { m.Sides[0].Shear, m.Sides[0].LivePress = "-1/10000", "x" }, api.ErrLimit},
	{"sides", "LivePress no number", func(m *api.Mesh) { m.Sides[0].LivePress, m.Sides[0].LiveShear = "-0", "10000" }, api.ErrForm},
	{"sides", "LivePress too long", func(m *api.Mesh) { m.Sides[0].LivePress, m.Sides[0].LiveShear = "-10000", "x" }, api.ErrLimit},
	{"sides", "LiveShear no number", func(m *api.Mesh) { m.Sides[0].LiveShear = " 1" }, api.ErrForm},
	{"sides", "LiveShear too long", func(m *api.Mesh) { m.Sides[0].LiveShear = api.Frac(most) }, api.ErrLimit},
	{"sides", "LiveShear longer than numbers", func(m *api.Mesh) { m.Sides[0].LiveShear = api.Frac(most + "0") }, api.ErrForm},
	{"sides", "fixed with Press", func(m *api.Mesh) { m.Sides[0].Press = "0" }, api.ErrArg},
	{"sides", "fixed with Shear", func(m *api.Mesh) { m.Sides[0].Shear = "0" }, api.ErrArg},
	{"sides", "fixed with LivePress", func(m *api.Mesh) { m.Sides[0].LivePress = "1" }, api.ErrArg},
	{"sides", "fixed with LiveShear", func(m *api.Mesh) { m.Sides[0].LiveShear = "-9999/9998" }, api.ErrArg},
}

// TestCheck: P4.1, the errors of a mesh.
func TestCheck(t *testing.T) {
	equal(t, "the example", limit.Check(example()), api.OK)
	for _, c := range wrongs {
		m := example()
		c.change(&m)
		equal(t, c.part+": "+c.what, limit.Check(m), c.want)
	}
}

// TestCheckOrder: P4.1 and R1, of the errors in two parts the first one counts.
func TestCheckOrder(t *testing.T) {
	for i, first := range wrongs {
		for _, then := range wrongs[i+1:] {
			if first.part == then.part {
				continue
			}
			m := example()
			then.change(&m)
			first.change(&m)
			equal(t, first.part+": "+first.what+", "+then.part+": "+then.what, limit.Check(m), first.want)
		}
	}
}

// TestCheckFirstElement: P4.1 and R1, of two elements of a list the first one counts, whatever the errors are.
func TestCheckFirstElement(t *testing.T) {
	m := example()
	m.Soils = append(m.Soils, api.Soil{Cohesion: "x"})
	equal(t, "the second soil", limit.Check(m), api.ErrForm)
	m.Soils[0].Weight = "-1"
	equal(t, "soils", limit.Check(m), api.ErrArg)
	m = example()
	m.Spots = append(m.Spots, m.Spots[1], api.Spot{X: 2000})
	equal(t, "points", limit.Check(m), api.ErrTwice)
	m.Spots[4], m.Spots[5] = m.Spots[5], m.Spots[4]
	equal(t, "points", limit.Check(m), api.ErrArg)
	m = example()
	m.Faces[0], m.Faces[1].A = api.Face{A: 0, B: 2, C: 1}, 9
	equal(t, "triangles", limit.Check(m), api.ErrArg)
	m.Faces = []api.Face{{A: 0, B: 1, C: 2}, {A: 1, B: 2, C: 3}, {A: 9}}
	equal(t, "triangles", limit.Check(m), api.ErrTwice)
	m = example()
	m.Sides[0].Press, m.Sides[1].A = "0", 9
	equal(t, "sides", limit.Check(m), api.ErrArg)
	m.Sides[0].Press = "x"
	equal(t, "sides", limit.Check(m), api.ErrForm)
}

// TestCheckNumbers: P4.1, four digits above or below.
func TestCheckNumbers(t *testing.T) {
	for _, a := range []api.Frac{"0", "9999", "1/9999", "9999/9998", "1000", "1234/4321"} {
		m := example()
		m.Soils[0].Cohesion, m.Soils[0].Weight = a, a
		m.Sides[1] = api.Side{A: 2, B: 3, Press: a, Shear: a, LivePress: a, LiveShear: a}
		equal(t, string(a), limit.Check(m), api.OK)
		if a = negative(a); a != "0" {
			m.Sides[1] = api.Side{A: 2, B: 3, Press: a, Shear: a, LivePress: a, LiveShear: a}
			equal(t, string(a), limit.Check(m), api.OK)
			m.Soils[0].Cohesion = a
			equal(t, string(a), limit.Check(m), api.ErrArg)
		}
	}
	for _, a := range []api.Frac{"10000", "-10000", "1/10000", "99999/2", "-3/10000", "12345/12346", api.Frac(most), "1/" + api.Frac(most)} {
		for what, change := range map[string]func(m *api.Mesh){
			"Cohesion":  func(m *api.Mesh) { m.Soils[0].Cohesion = a },
			"Weight":    func(m *api.Mesh) { m.Soils[0].Weight = a },
			"Sin":       func(m *api.Mesh) { m.Soils[0].Sin = a },
			"Cos":       func(m *api.Mesh) { m.Soils[0].Cos = a },
			"Press":     func(m *api.Mesh) { m.Sides[1].Press = a },
			"Shear":     func(m *api.Mesh) { m.Sides[1].Shear = a },
			"LivePress": func(m *api.Mesh) { m.Sides[1].LivePress = a },
			"LiveShear": func(m *api.Mesh) { m.Sides[1].LiveShear = a },
		} {
			m := example()
			change(&m)
			equal(t, fmt.Sprintf("%s %.20s", what, a), limit.Check(m), api.ErrLimit)
		}
	}
	m := example()
	m.Soils = append(m.Soils, api.Soil{Cohesion: "0", Sin: "6552/9577", Cos: "6985/9577", Weight: "0"}, api.Soil{Cohesion: "0", Sin: "0", Cos: "1", Weight: "0"})
	equal(t, "angles", limit.Check(m), api.OK)
	m.Soils[1].Sin, m.Soils[1].Cos = "199/19801", "19800/19801"
	equal(t, "a long angle", limit.Check(m), api.ErrLimit)
}

// comb is a mesh with as much of everything as may be: twelve triangles apart from each other, or beside each other.
func comb() api.Mesh {
	m := api.Mesh{Soils: slices.Repeat(example().Soils, 6)}
	for i := range 8 {
		m.Spots = append(m.Spots, api.Spot{X: -1000 + 285*i, Y: -1000}, api.Spot{X: -1000 + 285*i, Y: 1000})
	}
	for i := 0; i+2 < 14; i += 2 {
		m.Faces = append(m.Faces, api.Face{A: i, B: i + 2, C: i + 1, Soil: i / 2 % 6}, api.Face{A: i + 2, B: i + 3, C: i + 1, Soil: 5})
	}
	return m
}

// apart is a mesh of twelve triangles without a joint between two of them: 36 joints, of which 24 are loaded.
func apart(t testing.TB) api.Mesh {
	t.Helper()
	r := rand.New(rand.NewSource(3))
	for range 20000 {
		m := tangle(r, 16, 12)
		m.Sides = nil
		if len(m.Faces) == 12 && len(jointsOf(m)) == 36 {
			for _, j := range jointsOf(m)[:24] {
				m.Sides = append(m.Sides, api.Side{A: j.A, B: j.B, LivePress: "1", Shear: "1"})
			}
			return m
		}
	}
	t.Fatal("no such mesh")
	return api.Mesh{}
}

// TestCheckLimits: P4.1 and R7, at most n includes n.
func TestCheckLimits(t *testing.T) {
	m := comb()
	equal(t, "sizes", []int{len(m.Soils), len(m.Spots), len(m.Faces)}, []int{6, 16, 12})
	equal(t, "as much as may be", limit.Check(m), api.OK)
	m.Spots[0], m.Spots[1] = api.Spot{X: -1000, Y: -1000}, api.Spot{X: 1000, Y: 1000}
	m.Faces = m.Faces[2:]
	equal(t, "coordinates", limit.Check(m), api.OK)
	m = apart(t)
	equal(t, "24 sides", limit.Check(m), api.OK)
	j := jointsOf(m)[30]
	m.Sides = append(m.Sides, api.Side{A: j.A, B: j.B})
	equal(t, "25 sides", limit.Check(m), api.ErrLimit)
	m = example()
	m.Soils = append(m.Soils, api.Soil{Cohesion: "9", Sin: "3/5", Cos: "4/5", Weight: "9"})
	m.Spots = append(m.Spots, api.Spot{X: 60, Y: 50})
	equal(t, "what no triangle has", limit.Check(m), api.OK)
	m.Sides = nil
	equal(t, "no sides", limit.Check(m), api.OK)
	m.Sides = []api.Side{{A: 2, B: 3, Press: "", Shear: "0"}, {A: 3, B: 0}}
	equal(t, "sides without loads", limit.Check(m), api.OK)
	m.Faces = m.Faces[1:]
	m.Sides = append(m.Sides, api.Side{A: 0, B: 2, Fixed: true})
	equal(t, "one triangle", limit.Check(m), api.OK)
	m.Faces = append(m.Faces, api.Face{A: 3, B: 2, C: 4})
	m.Sides = m.Sides[1:]
	equal(t, "two triangles", limit.Check(m), api.OK)
	m.Faces = append(m.Faces, api.Face{A: 2, B: 0, C: 4})
	equal(t, "a side that is none any more", limit.Check(m), api.ErrNone)
	equal(t, "nothing", limit.Check(api.Mesh{}), api.ErrArg)
	equal(t, "long lists", limit.Check(api.Mesh{Soils: make([]api.Soil, 1000000)}), api.ErrLimit)
	equal(t, "long lists", limit.Check(api.Mesh{Spots: make([]api.Spot, 1000000)}), api.ErrLimit)
	equal(t, "long lists", limit.Check(api.Mesh{Faces: make([]api.Face, 1000000)}), api.ErrLimit)
	m = example()
	m.Sides = make([]api.Side, 1000000)
	equal(t, "long lists", limit.Check(m), api.ErrLimit)
}

// TestJoints: P4.1.
func TestJoints(t *testing.T) {
	l, e := limit.Joints(example())
	equal(t, "the example", e, api.OK)
	equal(t, "the example", l, []api.Joint{{A: 0, B: 1, Left: 0, Right: -1}, {A: 1, B: 2, Left: 0, Right: -1}, {A: 2, B: 0, Left: 0, Right: 1}, {A: 2, B: 3, Left: 1, Right: -1}, {A: 3, B: 0, Left: 1, Right: -1}})
	m := example()
	slices.Reverse(m.Faces)
	l, e = limit.Joints(m)
	equal(t, "the other way round", e, api.OK)
	equal(t, "the other way round", l, []api.Joint{{A: 0, B: 2, Left: 0, Right: 1}, {A: 2, B: 3, Left: 0, Right: -1}, {A: 3, B: 0, Left: 0, Right: -1}, {A: 0, B: 1, Left: 1, Right: -1}, {A: 1, B: 2, Left: 1, Right: -1}})
	for _, c := range wrongs {
		m := example()
		c.change(&m)
		l, e := limit.Joints(m)
		equal(t, c.what, said(l, e), said([]api.Joint(nil), c.want))
	}
	r := rand.New(rand.NewSource(2))
	inner := 0
	for range 300 {
		m := tangle(r, 3+r.Intn(14), 1+r.Intn(12))
		if len(m.Faces) == 0 {
			continue
		}
		l, e := limit.Joints(m)
		equal(t, "any triangles", e, api.OK)
		equal(t, "any triangles", l, jointsOf(m))
		for _, j := range l {
			if j.Right >= 0 {
				inner++
			}
		}
	}
	if inner < 300 {
		t.Error("too few:", inner)
	}
	l, _ = limit.Joints(apart(t))
	equal(t, "apart", len(l), 36)
}
