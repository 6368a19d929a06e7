package settle_test

import (
	"math/big"
	"math/rand"
	"testing"

	"underpin/api"
	"underpin/settle"
)

// mustSink returns the least and the greatest sinking at a place.
func mustSink(t testing.TB, r api.Route, x int) [2]api.Frac {
	t.Helper()
	low, high, e := settle.Sink(r, x)
	if e != api.OK {
		t.Fatalf("%v: %.200s, %d", e, said(r), x)
	}
	return [2]api.Frac{low, high}
}

// mustTilt returns the least and the greatest tilt of a building.
func mustTilt(t testing.TB, r api.Route, house int) [2]api.Frac {
	t.Helper()
	low, high, e := settle.Tilt(r, house)
	if e != api.OK {
		t.Fatalf("%v: %.200s, %d", e, said(r), house)
	}
	return [2]api.Frac{low, high}
}

// mustClass returns the least and the greatest class of a building.
func mustClass(t testing.TB, r api.Route, house int) [2]int {
	t.Helper()
	least, most, e := settle.Class(r, house)
	if e != api.OK {
		t.Fatalf("%v: %.200s, %d", e, said(r), house)
	}
	return [2]int{least, most}
}

// pair is the words of a text, of which there are two.
func pair(text string) [2]api.Frac {
	return [2]api.Frac(numbers(text))
}

// TestSink: P5.3, sinkings that were reckoned by hand.
func TestSink(t *testing.T) {
	r := exampleRoute()
	for _, c := range []struct {
		x    int
		want string
	}{
		{0, "1 2"}, {5, "1/2 1"}, {-5, "1/2 1"}, {9, "1/10 1/5"}, {-9, "1/10 1/5"}, {10, "0 0"}, {-10, "0 0"}, {11, "0 0"}, {-11, "0 0"},
		{100000, "0 0"}, {-100000, "0 0"},
	} {
		equal(t, "one excavation", mustSink(t, r, c.x), pair(c.want))
	}
	r.Cuts = append(r.Cuts, api.Cut{X: 6, Half: 4, Low: "0", High: "1/3"})
	equal(t, "two excavations", mustSink(t, r, 5), pair("1/2 17/16"))
	equal(t, "the first one alone", mustSink(t, r, 2), pair("4/5 8/5"))
	equal(t, "none", mustSink(t, api.Route{}, 7), pair("0 0"))
	far := api.Route{Cuts: []api.Cut{{X: 100000, Half: 10000, Low: "1", High: "1"}, {X: -100000, Half: 1, Low: "5", High: "5"}}}
	equal(t, "far on", mustSink(t, far, 90001), pair("1/100000000 1/100000000"))
	equal(t, "far back", mustSink(t, far, -100000), pair("5 5"))
}

// TestTilt: P5.3, tilts and classes that were reckoned by hand.
func TestTilt(t *testing.T) {
	r := exampleRoute()
	r.Houses = append(r.Houses, api.House{Name: "left", From: -10, To: 0}, api.House{Name: "over", From: -4, To: 4},
		api.House{Name: "off", From: -5, To: 6}, api.House{Name: "far", From: 10, To: 99}, api.House{Name: "wide", From: -100000, To: 100000})
	for house, want := range []string{"-1/5 -1/10", "1/10 1/5", "0 0", "-1/55 -1/110", "0 0", "0 0"} {
		equal(t, r.Houses[house].Name, mustTilt(t, r, house), pair(want))
	}
	for house, want := range [][2]int{{1, 1}, {1, 1}, {0, 0}, {0, 0}, {0, 0}, {0, 0}} {
		equal(t, r.Houses[house].Name, mustClass(t, r, house), want)
	}
	// two excavations pull both ways, so that the ends of the tilt are not those of the sinkings
	r.Cuts = append(r.Cuts, api.Cut{X: 10, Half: 10, Low: "10", High: "20"})
	equal(t, "both ways", mustTilt(t, r, 0), pair("-1/10 1/10"))
	equal(t, "both ways: class", mustClass(t, r, 0), [2]int{0, 1})
	r.Cuts[1].Low, r.Cuts[1].High = "0", "15"
	equal(t, "more one way", mustTilt(t, r, 0), pair("-1/5 1/20"))
	equal(t, "more one way: class", mustClass(t, r, 0), [2]int{0, 1})
	equal(t, "no excavation", mustTilt(t, api.Route{Houses: r.Houses}, 0), pair("0 0"))
}

// TestClass: P5.3, a limit that is reached is not less.
func TestClass(t *testing.T) {
	r := exampleRoute()
	for _, c := range []struct {
		limits string
		want   [2]int
	}{
		{"", [2]int{0, 0}},
		{"1/5", [2]int{0, 0}},
		{"1/6", [2]int{0, 1}},
		{"1/10 1/5", [2]int{0, 1}},
		{"1/11 1/10", [2]int{1, 2}},
		{"1/11 1/10 1/9 1/8 1/7 1/6", [2]int{1, 6}},
		{"1/40 1/30 1/20 1/15 1/12 1/11", [2]int{6, 6}},
		{"1 2 3", [2]int{0, 0}},
	} {
		r.Limits = numbers(c.limits)
		equal(t, c.limits, mustClass(t, r, 0), c.want)
		back := copiedRoute(r)
		back.Houses[0].From, back.Houses[0].To = -10, 0
		equal(t, c.limits+", the other way", mustClass(t, back, 0), c.want)
	}
}

// TestRouteByWords: P5.3 and P5.5, against all losses of ground at their ends, and against some between them.
func TestRouteByWords(t *testing.T) {
	r := rand.New(rand.NewSource(10))
	both, spread := 0, 0
	for range 300 {
		route := randomRoute(r, 5)
		corners := append(cornersOf(route), within(r, route), within(r, route))
		for x := -30; x <= 30; x += 1 + r.Intn(7) {
			var sinkings []*big.Rat
			for _, lost := range corners {
				sinkings = append(sinkings, sinkingAt(route, lost, x))
			}
			low, high := extremes(sinkings)
			equal(t, "Sink", mustSink(t, route, x), [2]api.Frac{frac(low), frac(high)})
		}
		for i, h := range route.Houses {
			var tilts, sizes []*big.Rat
			for _, lost := range corners {
				tilts = append(tilts, tiltAt(h, func(x int) *big.Rat { return sinkingAt(route, lost, x) }))
				sizes = append(sizes, new(big.Rat).Abs(tilts[len(tilts)-1]))
			}
			low, high := extremes(tilts)
			equal(t, "Tilt", mustTilt(t, route, i), [2]api.Frac{frac(low), frac(high)})
			least, most := extremes(sizes)
			if low.Sign() < 0 && high.Sign() > 0 { // between them there is ground without a tilt
				least = new(big.Rat)
				both++
			}
			want := [2]int{classAt(route, least), classAt(route, most)}
			equal(t, "Class", mustClass(t, route, i), want)
			if want[0] < want[1] && want[0] > 0 {
				spread++
			}
		}
	}
	if both < 25 || spread < 5 {
		t.Error("too few:", both, spread)
	}
}

// TestRouteLaws: P5.5, whatever ground is lost, the sinking, the tilt and the class lie between those that are told.
func TestRouteLaws(t *testing.T) {
	r := rand.New(rand.NewSource(11))
	for range 200 {
		route := randomRoute(r, 12)
		for range 5 {
			lost := within(r, route)
			sinking := func(x int) *big.Rat { return sinkingAt(route, lost, x) }
			x := r.Intn(61) - 30
			if ends := mustSink(t, route, x); !between(ends[0], frac(sinking(x)), ends[1]) {
				t.Fatal("sinking:", said(route), x, ends)
			}
			for i, h := range route.Houses {
				tilt := tiltAt(h, sinking)
				if ends := mustTilt(t, route, i); !between(ends[0], frac(tilt), ends[1]) {
					t.Fatal("tilt:", said(route), i, ends)
				}
				if ends := mustClass(t, route, i); classAt(route, tilt) < ends[0] || classAt(route, tilt) > ends[1] {
					t.Fatal("class:", said(route), i, ends)
				}
			}
		}
	}
}

// TestRouteErrors: P5.3, the errors of the route, then of the place, or the building.
func TestRouteErrors(t *testing.T) {
	r := exampleRoute()
	for _, x := range []int{-100001, 100001, -1 << 63, 1<<63 - 1} {
		low, high, e := settle.Sink(r, x)
		equal(t, "Sink", e, api.ErrArg)
		alone(t, "Sink", e, low, high)
	}
	for _, house := range []int{-1, 1, -1 << 63, 1<<63 - 1} {
		low, high, e := settle.Tilt(r, house)
		equal(t, "Tilt", e, api.ErrNone)
		alone(t, "Tilt", e, low, high)
		least, most, e := settle.Class(r, house)
		equal(t, "Class", e, api.ErrNone)
		alone(t, "Class", e, least, most)
	}
	for _, c := range wrongRoutes {
		r := exampleRoute()
		c.change(&r)
		low, high, e := settle.Sink(r, 1<<62)
		equal(t, "Sink, "+c.what, e, c.want)
		alone(t, "Sink", e, low, high)
		low, high, e = settle.Tilt(r, -1)
		equal(t, "Tilt, "+c.what, e, c.want)
		alone(t, "Tilt", e, low, high)
		least, most, e := settle.Class(r, 99)
		equal(t, "Class, "+c.what, e, c.want)
		alone(t, "Class", e, least, most)
	}
}

// TestLongRoute: P5.3, as much of everything as may be, with denominators that have nothing in common.
func TestLongRoute(t *testing.T) {
	r := largestRoute()
	for k := range r.Cuts {
		r.Cuts[k].Half, r.Cuts[k].X = 9999-k, 90000+k*900
		r.Cuts[k].Low = frac(big.NewRat(int64(9000+k), int64(9973-k)))
	}
	r.Houses[3].From = 99989
	var low, high []*big.Rat
	for _, c := range r.Cuts {
		low, high = append(low, rat(c.Low)), append(high, rat(c.High))
	}
	equal(t, "the route", settle.CheckRoute(r), api.OK)
	equal(t, "Sink", mustSink(t, r, 99989), [2]api.Frac{frac(sinkingAt(r, low, 99989)), frac(sinkingAt(r, high, 99989))})
	var tilts []*big.Rat
	for _, lost := range cornersOf(r) {
		tilts = append(tilts, tiltAt(r.Houses[3], func(x int) *big.Rat { return sinkingAt(r, lost, x) }))
	}
	least, greatest := extremes(tilts)
	equal(t, "Tilt", mustTilt(t, r, 3), [2]api.Frac{frac(least), frac(greatest)})
	equal(t, "far away", mustSink(t, r, 0), pair("0 0"))
}
