package ground_test

import (
	"fmt"
	"math/rand"
	"strings"
	"testing"

	"underpin/api"
	"underpin/ground"
)

// steep is a model of the example: clay begins at 4 and at 12, rock at 10 and 16.
var steep = point("b-1-0", "4", "b-1-1", "12", "b-2-0", "10", "b-2-1", "16")

// TestTops: P2.4.
func TestTops(t *testing.T) {
	for _, c := range []struct {
		model []api.Value
		x     int
		want  []api.Frac
	}{
		{steep, 0, []api.Frac{"0", "4", "10"}},
		{steep, 10, []api.Frac{"0", "12", "16"}},
		{steep, 5, []api.Frac{"0", "8", "13"}},
		{steep, 1, []api.Frac{"0", "24/5", "53/5"}},
		{nil, 3, []api.Frac{"0", "0", "0"}},
		{point("a", "9", "b-0-0", "7", "b-1-1", "-5", "zz", "1"), 5, []api.Frac{"0", "-5/2", "0"}}, // not allowed
		{point("b-1-0", "99", "b-2-0", "1"), 0, []api.Frac{"0", "99", "1"}},                        // not allowed
	} {
		l, e := ground.Tops(example(), c.model, c.x)
		equal(t, fmt.Sprint(c.model, c.x), []any{l, e}, []any{c.want, api.OK})
	}
	one := api.Ground{Stations: []int{7}, Depth: "5", Layers: []string{"a"}}
	l, e := ground.Tops(one, steep, 7)
	equal(t, "one layer", []any{l, e}, []any{[]api.Frac{"0"}, api.OK})
	for _, c := range badPoints {
		l, e := ground.Tops(example(), c.point, 99)
		equal(t, fmt.Sprint(c.point), []any{len(l), e}, []any{0, c.want})
	}
	for _, x := range []int{-1, 11, 1 << 62, -1 << 62} {
		l, e := ground.Tops(example(), steep, x)
		equal(t, fmt.Sprint(x), []any{len(l), e}, []any{0, api.ErrScope})
	}
}

// most is the greatest number.
var most = strings.Repeat("9", api.MaxDigits)

// TestTopsTooLong: P2.4, tops with more digits than numbers may have.
func TestTopsTooLong(t *testing.T) {
	long := point("b-1-0", most, "b-1-1", "1/3", "b-2-0", "1")
	l, e := ground.Tops(example(), long, 0)
	equal(t, "at the station", []any{len(l), l[1] == api.Frac(most), e}, []any{3, true, api.OK})
	l, e = ground.Tops(example(), long, 10)
	equal(t, "at the other station", []any{l, e}, []any{[]api.Frac{"0", "1/3", "0"}, api.OK})
	// 5/10 of both: (3 * 99..9 + 1) / 6
	l, e = ground.Tops(example(), long, 5)
	equal(t, "between", []any{len(l), e}, []any{0, api.ErrLimit})
	n, e := ground.Layer(example(), long, 5, "0")
	equal(t, "the layer", []any{n, e}, []any{0, api.ErrLimit})
	n, e = ground.Layer(example(), long, 5, "x")
	equal(t, "a depth that is none", []any{n, e}, []any{0, api.ErrForm})
	n, e = ground.Layer(example(), long, 5, "21")
	equal(t, "a depth too deep", []any{n, e}, []any{0, api.ErrArg})
	n, e = ground.Layer(example(), long, 0, "20")
	equal(t, "a long top", []any{n, e}, []any{2, api.OK})
	long[0].Value = api.Frac("-" + most)
	n, e = ground.Layer(example(), long, 0, "0")
	equal(t, "a long top above 0", []any{n, e}, []any{1, api.OK})
}

// TestLayer: P2.4.
func TestLayer(t *testing.T) {
	for _, c := range []struct {
		model []api.Value
		x     int
		depth api.Frac
		want  int
	}{
		{steep, 0, "0", 0}, {steep, 0, "399/100", 0}, {steep, 0, "4", 1}, {steep, 0, "999/100", 1}, {steep, 0, "10", 2}, {steep, 0, "20", 2},
		{steep, 5, "79/10", 0}, {steep, 5, "8", 1}, {steep, 5, "13", 2},
		{steep, 1, "24/5", 1}, {steep, 1, "23/5", 0}, {steep, 10, "15", 1},
		{nil, 3, "0", 2}, // of equal tops the last one
		{point("b-1-0", "7", "b-2-0", "7"), 0, "6", 0},
		{point("b-1-0", "7", "b-2-0", "7"), 0, "7", 2},
		{point("b-1-0", "99", "b-2-0", "1"), 0, "1", 2}, // not allowed: the last one, not the one ahead of the first that is too deep
		{point("b-1-0", "99", "b-2-0", "1"), 0, "1/2", 0},
		{point("b-1-0", "-3", "b-2-0", "1"), 0, "0", 1},
		{steep, 0, api.Frac("1/" + most), 0},
	} {
		n, e := ground.Layer(example(), c.model, c.x, c.depth)
		equal(t, fmt.Sprint(c.model, c.x, len(c.depth)), []any{n, e}, []any{c.want, api.OK})
	}
	for depth, want := range map[api.Frac]api.Errno{"": api.ErrForm, "x": api.ErrForm, "2/4": api.ErrForm, "-0": api.ErrForm, "-1": api.ErrArg, "-1/1000000000000": api.ErrArg, "201/10": api.ErrArg, "1000000000000": api.ErrArg} {
		n, e := ground.Layer(example(), steep, 0, depth)
		equal(t, string(depth), []any{n, e}, []any{0, want})
		n, e = ground.Layer(example(), steep, 11, depth)
		equal(t, string(depth)+" outside", []any{n, e}, []any{0, api.ErrScope})
	}
	for _, c := range badPoints {
		n, e := ground.Layer(example(), c.point, 99, "x")
		equal(t, fmt.Sprint(c.point), []any{n, e}, []any{0, c.want})
	}
}

// TestTopsByWords: P2.4, for random grounds, by the straight lines.
func TestTopsByWords(t *testing.T) {
	r := rand.New(rand.NewSource(5))
	for range 200 {
		g, model := randomGround(r, 2, true)
		first, last := g.Stations[0], g.Stations[len(g.Stations)-1]
		for x := first; x <= last; x++ {
			l, e := ground.Tops(g, model, x)
			equal(t, "error", e, api.OK)
			var want []api.Frac
			for k := range g.Layers {
				want = append(want, frac(topOf(g, model, x, k)))
			}
			equal(t, "tops", l, want)
			for k := range g.Layers { // at its top a layer begins
				n, e := ground.Layer(g, model, x, l[k])
				if e != api.OK || n < k || topOf(g, model, x, n).Cmp(rat(l[k])) > 0 || n+1 < len(l) && topOf(g, model, x, n+1).Cmp(rat(l[k])) <= 0 {
					t.Fatal(said(g), model, x, k, n, e)
				}
			}
		}
	}
}
