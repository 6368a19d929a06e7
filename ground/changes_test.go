package ground_test

import (
	"fmt"
	"math/rand"
	"slices"
	"testing"

	"underpin/api"
	"underpin/exact"
	"underpin/ground"
)

// TestAdd: P2.5.
func TestAdd(t *testing.T) {
	s := topSaying("a", 5, 1, "8", "8")
	g, e := ground.Add(example(), s)
	equal(t, "error", e, api.OK)
	equal(t, "behind the others", said(g), said(with(example(), s)))
	a, e := ground.Most(g, terms("b-1-1", "1"))
	equal(t, "16 less 3", []any{a.Value, e}, []any{api.Frac("13"), api.OK})
	g, e = ground.Add(g, rowSaying(t, "r", "1 b-1-0 <= 3"))
	equal(t, "a row", []any{len(g.Sayings), g.Sayings[3].Name, e}, []any{4, "r", api.OK})
	for _, c := range []struct {
		s    api.Saying
		want api.Errno
	}{
		{api.Saying{}, api.ErrName}, {topSaying("bh", 99, 9, "", ""), api.ErrTwice}, {api.Saying{Name: "x"}, api.ErrArg},
		{topSaying("x", 0, 3, "0", "0"), api.ErrNone}, {topSaying("x", 11, 1, "0", "0"), api.ErrScope}, {topSaying("x", 0, 1, "", "0"), api.ErrForm},
		{traitSaying("x", "cohesion", 0, "0", "1000000000000"), api.ErrLimit}, {traitSaying("x", "cohesion", 0, "1", "0"), api.ErrArg},
		{rowOf("1", "zz", "1"), api.ErrNone},
	} {
		g, e := ground.Add(example(), c.s)
		equal(t, fmt.Sprint(c.s), []any{said(g), e}, []any{said(api.Ground{}), c.want})
	}
	full := largest()
	full.Sayings = full.Sayings[1:]
	g, e = ground.Add(full, topSaying("x", 0, 1, "0", "0"))
	equal(t, "40 statements", []any{len(g.Sayings), e}, []any{40, api.OK})
	g, e = ground.Add(g, api.Saying{})
	equal(t, "41 statements", []any{said(g), e}, []any{said(api.Ground{}), api.ErrLimit})
}

// TestDrop: P2.5.
func TestDrop(t *testing.T) {
	g, e := ground.Drop(example(), "bh")
	equal(t, "the first one", []any{said(g), e}, []any{said(only(example(), func(i int) bool { return i == 1 })), api.OK})
	g, e = ground.Drop(example(), "cs")
	equal(t, "the last one", []any{said(g), e}, []any{said(only(example(), func(i int) bool { return i == 0 })), api.OK})
	g, e = ground.Drop(g, "bh")
	equal(t, "all", []any{len(g.Sayings), e}, []any{0, api.OK})
	for _, name := range []string{"", "b", "bh ", "fill", "cohesion", "\x00"} {
		g, e := ground.Drop(example(), name)
		equal(t, name, []any{said(g), e}, []any{said(api.Ground{}), api.ErrNone})
		yes, e := ground.Known(example(), name)
		equal(t, name, []any{yes, e}, []any{false, api.ErrNone})
	}
}

// TestKnown: P2.6.
func TestKnown(t *testing.T) {
	for _, c := range []struct {
		more []api.Saying
		name string
		want bool
	}{
		{nil, "bh", false},
		{nil, "cs", false},
		{[]api.Saying{topSaying("x", 0, 1, "3", "4")}, "bh", true},
		{[]api.Saying{topSaying("x", 0, 1, "3", "4")}, "x", true},
		{[]api.Saying{topSaying("x", 0, 1, "2", "5")}, "x", true},
		{[]api.Saying{topSaying("x", 0, 1, "2", "5")}, "bh", false},
		{[]api.Saying{topSaying("x", 0, 1, "2", "7/2")}, "x", false}, // the second row is known, the first is not
		{[]api.Saying{topSaying("x", 0, 1, "7/2", "5")}, "x", false}, // the first row is known, the second is not
		{[]api.Saying{topSaying("x", 10, 2, "0", "20")}, "x", true},
		{[]api.Saying{topSaying("x", 5, 1, "3/2", "12")}, "x", true},
		{[]api.Saying{topSaying("x", 5, 1, "151/100", "12")}, "x", false},
		{[]api.Saying{topSaying("x", 0, 2, "3", "20")}, "x", true}, // rock lies below clay
		{[]api.Saying{traitSaying("x", "cohesion", 1, "0", "30")}, "x", true},
		{[]api.Saying{traitSaying("x", "cohesion", 0, "0", "30")}, "x", false},
		{[]api.Saying{rowSaying(t, "x", "1 b-1-0 1 t-cohesion-1 <= 34")}, "x", true},
		{[]api.Saying{rowSaying(t, "x", "1 b-1-0 1 t-cohesion-1 <= 33")}, "x", false},
		{[]api.Saying{rowOf("0")}, "seen", true},
		{[]api.Saying{rowOf("-1")}, "seen", false},
		{[]api.Saying{rowOf("-1")}, "bh", true},
		{[]api.Saying{topSaying("x", 0, 1, "5", "6")}, "cs", true}, // a ground that contradicts itself says everything
		{[]api.Saying{topSaying("x", 0, 1, "5", "6")}, "x", false},
	} {
		yes, e := ground.Known(with(example(), c.more...), c.name)
		equal(t, "error", e, api.OK)
		equal(t, fmt.Sprint(c.more, c.name), yes, c.want)
	}
}

// TestKnownByWords: P2.6, for random grounds, by what exact implies of all rows of a statement.
func TestKnownByWords(t *testing.T) {
	r := rand.New(rand.NewSource(6))
	yeses := 0
	for range 150 {
		g, _ := randomGround(r, 7, r.Intn(3) == 0)
		for i, s := range g.Sayings {
			rest := mustRows(t, only(g, func(k int) bool { return k != i }))
			own := mustRows(t, only(g, func(k int) bool { return k == i }))
			want := true
			for _, row := range own[len(mustRows(t, only(g, func(int) bool { return false }))):] {
				yes, _, _, e := exact.Implied(rest, row)
				equal(t, "error", e, api.OK)
				want = want && yes
			}
			yes, e := ground.Known(g, s.Name)
			equal(t, said(g)+s.Name, []any{yes, e}, []any{want, api.OK})
			if yes {
				yeses++
			}
		}
	}
	if yeses < 20 {
		t.Error("too few:", yeses)
	}
}

// TestQuarrel: P2.6.
func TestQuarrel(t *testing.T) {
	x, y := topSaying("x", 0, 2, "1", "2"), topSaying("y", 0, 1, "5", "6")
	for _, c := range []struct {
		more []api.Saying
		want []string
	}{
		{[]api.Saying{x}, []string{"bh", "x"}},
		{[]api.Saying{y}, []string{"bh", "y"}},
		{[]api.Saying{x, y}, []string{"x", "y"}},         // bh is taken away first
		{[]api.Saying{rowOf("-1"), x}, []string{"seen"}}, // bh is taken away ahead of it
		{[]api.Saying{x, rowOf("-1")}, []string{"seen"}},
		{[]api.Saying{topSaying("x", 0, 2, "21", "22")}, []string{"x"}}, // below the ground's depth
		{[]api.Saying{topSaying("m", 5, 1, "8", "8"), topSaying("n", 10, 1, "0", "11")}, []string{"bh", "m", "n"}},
		{[]api.Saying{traitSaying("m", "cohesion", 1, "31", "40"), traitSaying("n", "cohesion", 1, "1", "5")}, []string{"m", "n"}},
	} {
		l, e := ground.Quarrel(with(example(), c.more...))
		equal(t, "error", e, api.OK)
		equal(t, fmt.Sprint(c.more), l, c.want)
	}
	for _, g := range []api.Ground{example(), only(example(), func(int) bool { return false }), {Stations: []int{0}, Depth: "0", Layers: []string{"a"}}} {
		l, e := ground.Quarrel(g)
		equal(t, "no quarrel", []any{len(l), e}, []any{0, api.ErrNone})
	}
}

// TestQuarrelByWords: P2.6 and P2.9, statements are taken away one by one as it is said; the list alone is as small as can be.
func TestQuarrelByWords(t *testing.T) {
	r := rand.New(rand.NewSource(7))
	quarrels, long := 0, 0
	for range 300 {
		g, _ := randomGround(r, 10, true)
		l, e := ground.Quarrel(g)
		if !isEmpty(t, g) {
			equal(t, "no quarrel", []any{len(l), e}, []any{0, api.ErrNone})
			continue
		}
		left := make([]bool, len(g.Sayings))
		for i := range left {
			left[i] = true
		}
		var want []string
		for i, s := range g.Sayings {
			left[i] = false
			if !isEmpty(t, only(g, func(k int) bool { return left[k] })) {
				left[i] = true
				want = append(want, s.Name)
			}
		}
		equal(t, said(g), []any{l, e}, []any{want, api.OK})
		quarrels++
		long += len(l) / 3
		named := func(i int) bool { return slices.Contains(l, g.Sayings[i].Name) }
		equal(t, "with all of them", isEmpty(t, only(g, named)), true)
		for _, name := range l {
			equal(t, "without one of them", isEmpty(t, only(g, func(i int) bool { return named(i) && g.Sayings[i].Name != name })), false)
		}
	}
	if quarrels < 40 || long < 5 {
		t.Error("too few:", quarrels, long)
	}
}

// TestCompare: P2.7.
func TestCompare(t *testing.T) {
	a := with(example(), rowSaying(t, "r", "1 b-1-0 <= 3"))
	b := example()
	b.Sayings = []api.Saying{traitSaying("zz", "cohesion", 0, "0", "0"), topSaying("a", 0, 1, "3", "4"), traitSaying("cs", "cohesion", 1, "10", "31"), topSaying("bh", 0, 1, "3", "4")}
	l, e := ground.Compare(a, b)
	equal(t, "error", e, api.OK)
	equal(t, "by name", l, []api.Change{{Name: "a", Kind: api.ChNew}, {Name: "cs", Kind: api.ChOther}, {Name: "r", Kind: api.ChGone}, {Name: "zz", Kind: api.ChNew}})
	l, e = ground.Compare(b, a)
	equal(t, "error", e, api.OK)
	equal(t, "the other way", l, []api.Change{{Name: "a", Kind: api.ChGone}, {Name: "cs", Kind: api.ChOther}, {Name: "r", Kind: api.ChNew}, {Name: "zz", Kind: api.ChGone}})
	l, e = ground.Compare(a, a)
	equal(t, "none", []any{len(l), e}, []any{0, api.OK})
	b = with(a)
	slices.Reverse(b.Sayings)
	l, e = ground.Compare(a, b)
	equal(t, "another order", []any{len(l), e}, []any{0, api.OK})
	b = with(example())
	b.Sayings[0].Row.Terms, b.Traits = []api.Term{}, append([]api.Trait{}, b.Traits...)
	l, e = ground.Compare(example(), b)
	equal(t, "empty lists", []any{len(l), e}, []any{0, api.OK})
	l, e = ground.Compare(only(example(), func(int) bool { return false }), with(b, rowOf("1")))
	equal(t, "against none", []any{l, e}, []any{[]api.Change{{Name: "bh", Kind: api.ChNew}, {Name: "cs", Kind: api.ChNew}, {Name: "seen", Kind: api.ChNew}}, api.OK})
}

// TestCompareFields: P2.7, each field of a statement counts.
func TestCompareFields(t *testing.T) {
	g := example()
	g.Traits = append(g.Traits, api.Trait{Name: "weight", Low: "0", High: "50"})
	other := func(s, to api.Saying) {
		t.Helper()
		l, e := ground.Compare(with(g, s), with(g, to))
		equal(t, fmt.Sprint(s, to), []any{l, e}, []any{[]api.Change{{Name: s.Name, Kind: api.ChOther}}, api.OK})
	}
	top := topSaying("x", 4, 1, "1", "2")
	other(top, topSaying("x", 5, 1, "1", "2"))
	other(top, topSaying("x", 4, 2, "1", "2"))
	other(top, topSaying("x", 4, 1, "3/2", "2"))
	other(top, topSaying("x", 4, 1, "1", "3"))
	other(top, traitSaying("x", "cohesion", 1, "1", "2"))
	value := traitSaying("x", "cohesion", 1, "1", "2")
	other(value, traitSaying("x", "weight", 1, "1", "2"))
	other(value, traitSaying("x", "cohesion", 2, "1", "2"))
	line := rowSaying(t, "x", "1 b-1-0 2 b-1-1 <= 3")
	other(line, rowSaying(t, "x", "1 b-1-0 2 b-1-1 <= 4"))
	other(line, rowSaying(t, "x", "1 b-1-0 3 b-1-1 <= 3"))
	other(line, rowSaying(t, "x", "1 b-1-0 2 b-2-1 <= 3"))
	other(line, rowSaying(t, "x", "1 b-1-0 <= 3"))
	other(line, rowSaying(t, "x", "2 b-1-0 4 b-1-1 <= 6")) // it says the same, by other fields
	other(line, topSaying("x", 4, 1, "1", "2"))
}

// TestCompareClash: P2.7.
func TestCompareClash(t *testing.T) {
	changes := map[string]func(g *api.Ground){
		"a station more":   func(g *api.Ground) { g.Stations = []int{0, 5, 10} },
		"a station moved":  func(g *api.Ground) { g.Stations = []int{0, 11} },
		"depth":            func(g *api.Ground) { g.Depth = "41/2" },
		"a layer more":     func(g *api.Ground) { g.Layers = append(g.Layers, "lime") },
		"a layer's name":   func(g *api.Ground) { g.Layers[2] = "lime" },
		"layers' order":    func(g *api.Ground) { g.Layers = []string{"clay", "fill", "rock"} },
		"a trait more":     func(g *api.Ground) { g.Traits = append(g.Traits, api.Trait{Name: "weight", Low: "0", High: "1"}) },
		"a trait's Low":    func(g *api.Ground) { g.Traits[0].Low = "1" },
		"a trait's High":   func(g *api.Ground) { g.Traits[0].High = "49" },
		"a trait's name":   func(g *api.Ground) { g.Traits[0].Name, g.Sayings[1].Trait = "weight", "weight" },
		"and a statement":  func(g *api.Ground) { g.Depth, g.Sayings[0].High = "19", "5" },
		"without a traits": func(g *api.Ground) { g.Traits, g.Sayings = nil, g.Sayings[:1] },
	}
	for what, change := range changes {
		g := example()
		change(&g)
		equal(t, what, ground.Check(g), api.OK)
		for _, pair := range [][2]api.Ground{{example(), g}, {g, example()}} {
			l, e := ground.Compare(pair[0], pair[1])
			equal(t, what, []any{len(l), e}, []any{0, api.ErrClash})
		}
	}
	bad := example()
	bad.Depth = "x"
	worse := example()
	worse.Stations = nil
	l, e := ground.Compare(bad, worse)
	equal(t, "the error of the first one", []any{len(l), e}, []any{0, api.ErrForm})
	l, e = ground.Compare(worse, bad)
	equal(t, "the error of the first one", []any{len(l), e}, []any{0, api.ErrArg})
}
