package settle_test

import (
	"fmt"
	"math/big"
	"math/rand"
	"reflect"
	"slices"
	"strings"
	"testing"

	"underpin/api"
)

// exampleBed is the bed B of the chapter.
func exampleBed() api.Bed {
	return api.Bed{Slices: numbers("8 0 0"), Rate: "1/4", Soft: "1/2"}
}

// exampleRoute is the route R of the chapter.
func exampleRoute() api.Route {
	return api.Route{
		Cuts:   []api.Cut{{X: 0, Half: 10, Low: "10", High: "20"}},
		Houses: []api.House{{Name: "h", From: 0, To: 10}},
		Limits: numbers("1/20 1/5"),
	}
}

// copiedBed is a bed with lists of its own.
func copiedBed(b api.Bed) api.Bed {
	b.Slices, b.Adds = slices.Clone(b.Slices), slices.Clone(b.Adds)
	return b
}

// copiedRoute is a route with lists of its own.
func copiedRoute(r api.Route) api.Route {
	return api.Route{Cuts: slices.Clone(r.Cuts), Houses: slices.Clone(r.Houses), Limits: slices.Clone(r.Limits)}
}

// numbers are the words of a text.
func numbers(text string) []api.Frac {
	var l []api.Frac
	for _, word := range strings.Fields(text) {
		l = append(l, api.Frac(word))
	}
	return l
}

// equal fails unless both are equal (nil and empty lists are).
func equal(t testing.TB, what string, got, want any) {
	t.Helper()
	g, w := reflect.ValueOf(got), reflect.ValueOf(want)
	if g.Kind() == reflect.Slice && g.Len() == 0 && w.Len() == 0 {
		return
	}
	if !reflect.DeepEqual(got, want) {
		t.Fatalf("%s: got %.2000s, want %.2000s", what, fmt.Sprint(got), fmt.Sprint(want))
	}
}

// said writes anything: nil and empty lists alike.
func said(l ...any) string {
	return fmt.Sprintf("%q", fmt.Sprint(l...))
}

// alone fails if there is a result beside an error.
func alone(t testing.TB, what string, e api.Errno, results ...any) {
	t.Helper()
	for _, result := range results {
		if e != api.OK && !reflect.ValueOf(result).IsZero() {
			t.Fatal(what, "has a result beside the error", e, result)
		}
	}
}

// most is a number of MaxDigits digits.
var most = strings.Repeat("9", api.MaxDigits)

// badNumbers are numbers that beds and routes must not have, and the error.
var badNumbers = []struct {
	number api.Frac
	want   api.Errno
}{
	{"", api.ErrForm},
	{"x", api.ErrForm},
	{"2/4", api.ErrForm},
	{"1.5", api.ErrForm},
	{"-0", api.ErrForm},
	{"+1", api.ErrForm},
	{"01", api.ErrForm},
	{"1/0", api.ErrForm},
	{"1/1", api.ErrForm},
	{api.Frac(most + "0"), api.ErrForm},
	{"10000", api.ErrLimit},
	{"-10000", api.ErrLimit},
	{"1/10000", api.ErrLimit},
	{"10000/9999", api.ErrLimit},
	{"-9999/10000", api.ErrLimit},
	{api.Frac(most), api.ErrLimit},
}

// rat returns a number as math/big has it.
func rat(a api.Frac) *big.Rat {
	x, ok := new(big.Rat).SetString(string(a))
	if !ok {
		panic("no number: " + string(a))
	}
	return x
}

// rats returns numbers as math/big has them.
func rats(l []api.Frac) []*big.Rat {
	var out []*big.Rat
	for _, a := range l {
		out = append(out, rat(a))
	}
	return out
}

// frac returns a number of math/big as text.
func frac(x *big.Rat) api.Frac {
	return api.Frac(x.RatString())
}

// fracs returns numbers of math/big as texts.
func fracs(l []*big.Rat) []api.Frac {
	var out []api.Frac
	for _, x := range l {
		out = append(out, frac(x))
	}
	return out
}

// compared is -1, 0 or 1 as one number is less than, equal to, or greater than another one.
func compared(a, b api.Frac) int {
	return rat(a).Cmp(rat(b))
}

// between tells whether a number lies between two others.
func between(low, a, high api.Frac) bool {
	return compared(low, a) <= 0 && compared(a, high) <= 0
}

// plus, minus, times and over reckon with numbers.
func plus(l ...*big.Rat) *big.Rat {
	sum := new(big.Rat)
	for _, x := range l {
		sum.Add(sum, x)
	}
	return sum
}

func minus(a, b *big.Rat) *big.Rat {
	return new(big.Rat).Sub(a, b)
}

func times(l ...*big.Rat) *big.Rat {
	product := number(1)
	for _, x := range l {
		product.Mul(product, x)
	}
	return product
}

func over(a, b *big.Rat) *big.Rat {
	return new(big.Rat).Quo(a, b)
}

func number(n int) *big.Rat {
	return big.NewRat(int64(n), 1)
}

// bedAfter returns the pressures after n steps, by the words of the chapter.
func bedAfter(b api.Bed, n int) []*big.Rat {
	now, rate := rats(b.Slices), rat(b.Rate)
	for step := range n {
		for _, load := range b.Adds {
			for i := range now {
				if load.Step == step {
					now[i] = plus(now[i], rat(load.Pressure))
				}
			}
		}
		below := new(big.Rat)
		if !b.Below {
			below = now[len(now)-1]
		}
		around := append(append([]*big.Rat{new(big.Rat)}, now...), below)
		next := make([]*big.Rat, len(now))
		for i, own := range now {
			next[i] = plus(own, times(rate, minus(plus(around[i], around[i+2]), times(number(2), own))))
		}
		now = next
	}
	return now
}

// settledAfter returns the settlement after n steps, by the words of the chapter.
func settledAfter(b api.Bed, n int) *big.Rat {
	return settledWith(b, n, bedAfter(b, n))
}

// settledWith returns the settlement after n steps, at which these pressures are left.
func settledWith(b api.Bed, n int, left []*big.Rat) *big.Rat {
	sum := plus(rats(b.Slices)...)
	for _, load := range b.Adds {
		if load.Step < n {
			sum = plus(sum, times(rat(load.Pressure), number(len(b.Slices))))
		}
	}
	return times(rat(b.Soft), minus(sum, plus(left...)))
}

// some makes a number from 0 on.
func some(r *rand.Rand, upTo, parts int) api.Frac {
	return frac(big.NewRat(int64(r.Intn(upTo+1)), int64(1+r.Intn(parts))))
}

// randomBed makes a bed of up to so many slices, whose loads come within so many steps.
func randomBed(r *rand.Rand, most, steps int) api.Bed {
	b := api.Bed{Below: r.Intn(2) == 0, Soft: frac(big.NewRat(int64(1+r.Intn(9)), int64(1+r.Intn(9))))}
	parts := int64(1 + r.Intn(9))
	b.Rate = frac(big.NewRat(1+r.Int63n(parts), 2*parts))
	for range 1 + r.Intn(most) {
		b.Slices = append(b.Slices, some(r, 20, 4))
	}
	var at []int
	for range r.Intn(5) {
		at = append(at, r.Intn(steps+1))
	}
	slices.Sort(at)
	for _, step := range at {
		b.Adds = append(b.Adds, api.Add{Step: step, Pressure: some(r, 9, 3)})
	}
	return b
}

// shareAt returns the share of an excavation, or a pad, by the words of the chapter.
func shareAt(middle, half, x int) *big.Rat {
	distance := number(x - middle)
	rest := minus(number(half), distance.Abs(distance))
	if rest.Sign() < 0 {
		return new(big.Rat)
	}
	return over(rest, times(number(half), number(half)))
}

// sinkingAt returns the sinking at a place if so much ground is lost, by the words of the chapter.
func sinkingAt(r api.Route, lost []*big.Rat, x int) *big.Rat {
	sum := new(big.Rat)
	for i, c := range r.Cuts {
		sum = plus(sum, times(shareAt(c.X, c.Half, x), lost[i]))
	}
	return sum
}

// lifted returns by how much pads lift a place if so much is put there.
func lifted(pads []api.Pad, put []*big.Rat, x int) *big.Rat {
	sum := new(big.Rat)
	for k, pad := range pads {
		sum = plus(sum, times(shareAt(pad.X, pad.Half, x), put[k]))
	}
	return sum
}

// tiltAt returns the tilt of a building if the ground sinks so.
func tiltAt(h api.House, sinking func(x int) *big.Rat) *big.Rat {
	return over(minus(sinking(h.To), sinking(h.From)), number(h.To-h.From))
}

// classAt returns the class of a tilt, by the words of the chapter.
func classAt(r api.Route, tilt *big.Rat) int {
	class, size := 0, new(big.Rat).Abs(tilt)
	for _, limit := range r.Limits {
		if rat(limit).Cmp(size) < 0 {
			class++
		}
	}
	return class
}

// cornersOf returns all losses of ground at which each excavation loses its Low or its High.
func cornersOf(r api.Route) [][]*big.Rat {
	all := [][]*big.Rat{nil}
	for _, c := range r.Cuts {
		var longer [][]*big.Rat
		for _, lost := range all {
			longer = append(longer, append(slices.Clone(lost), rat(c.Low)), append(slices.Clone(lost), rat(c.High)))
		}
		all = longer
	}
	return all
}

// within makes losses of ground between Low and High.
func within(r *rand.Rand, route api.Route) []*big.Rat {
	var lost []*big.Rat
	for _, c := range route.Cuts {
		part := big.NewRat(int64(r.Intn(7)), 6)
		lost = append(lost, plus(rat(c.Low), times(part, minus(rat(c.High), rat(c.Low)))))
	}
	return lost
}

// extremes returns the least and the greatest of numbers.
func extremes(l []*big.Rat) (low, high *big.Rat) {
	return slices.MinFunc(l, (*big.Rat).Cmp), slices.MaxFunc(l, (*big.Rat).Cmp)
}

// randomRoute makes a route of up to so many excavations.
func randomRoute(r *rand.Rand, most int) api.Route {
	var route api.Route
	for range r.Intn(most + 1) {
		low := some(r, 9, 3)
		high := frac(plus(rat(low), rat(some(r, 9, 3))))
		route.Cuts = append(route.Cuts, api.Cut{X: r.Intn(41) - 20, Half: 1 + r.Intn(20), Low: low, High: high})
	}
	for k := range r.Intn(5) {
		from := r.Intn(41) - 20
		route.Houses = append(route.Houses, api.House{Name: fmt.Sprintf("h%d", (k*7)%11), From: from, To: from + 1 + r.Intn(12)})
	}
	limit := new(big.Rat)
	for range r.Intn(5) {
		limit = plus(limit, big.NewRat(int64(1+r.Intn(4)), 40))
		route.Limits = append(route.Limits, frac(limit))
	}
	return route
}

// randomPads makes pads.
func randomPads(r *rand.Rand, many int) []api.Pad {
	var pads []api.Pad
	for range many {
		pads = append(pads, api.Pad{X: r.Intn(41) - 20, Half: 1 + r.Intn(20), Most: some(r, 30, 2)})
	}
	return pads
}
