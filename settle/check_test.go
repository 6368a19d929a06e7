package settle_test

import (
	"fmt"
	"slices"
	"strings"
	"testing"

	"underpin/api"
	"underpin/settle"
)

// wrongBeds are changes of the example, part by part in the order of CheckBed, with the error that each one makes.
var wrongBeds = []struct {
	part, what string
	change     func(b *api.Bed)
	want       api.Errno
}{
	{"slices", "33 slices", func(b *api.Bed) { b.Slices = slices.Repeat(numbers("1"), 33) }, api.ErrLimit},
	{"slices", "33 slices that are none", func(b *api.Bed) { b.Slices = make([]api.Frac, 33) }, api.ErrLimit},
	{"slices", "none", func(b *api.Bed) { b.Slices = nil }, api.ErrArg},
	{"slices", "empty", func(b *api.Bed) { b.Slices = []api.Frac{} }, api.ErrArg},
	{"slices", "no number", func(b *api.Bed) { b.Slices[2] = "x" }, api.ErrForm},
	{"slices", "too long", func(b *api.Bed) { b.Slices[1] = "10000" }, api.ErrLimit},
	{"slices", "too long, and below 0", func(b *api.Bed) { b.Slices[0] = "-1/10000" }, api.ErrLimit},
	{"slices", "below 0", func(b *api.Bed) { b.Slices[2] = "-1/9999" }, api.ErrArg},
	{"rate", "no number", func(b *api.Bed) { b.Rate = "" }, api.ErrForm},
	{"rate", "too long", func(b *api.Bed) { b.Rate = "1/10000" }, api.ErrLimit},
	{"rate", "too long, and too great", func(b *api.Bed) { b.Rate = "10000" }, api.ErrLimit},
	{"rate", "0", func(b *api.Bed) { b.Rate = "0" }, api.ErrArg},
	{"rate", "below 0", func(b *api.Bed) { b.Rate = "-1/4" }, api.ErrArg},
	{"rate", "above 1/2", func(b *api.Bed) { b.Rate = "5000/9999" }, api.ErrArg},
	{"rate", "far above 1/2", func(b *api.Bed) { b.Rate = "1" }, api.ErrArg},
	{"soft", "no number", func(b *api.Bed) { b.Soft = "1/ 2" }, api.ErrForm},
	{"soft", "too long", func(b *api.Bed) { b.Soft = "12345" }, api.ErrLimit},
	{"soft", "too long, and below 0", func(b *api.Bed) { b.Soft = "-12345" }, api.ErrLimit},
	{"soft", "0", func(b *api.Bed) { b.Soft = "0" }, api.ErrArg},
	{"soft", "below 0", func(b *api.Bed) { b.Soft = "-9999" }, api.ErrArg},
	{"loads", "13 loads", func(b *api.Bed) { b.Adds = slices.Repeat([]api.Add{{Pressure: "1"}}, 13) }, api.ErrLimit},
	{"loads", "13 loads that are none", func(b *api.Bed) { b.Adds = slices.Repeat([]api.Add{{Step: -1}}, 13) }, api.ErrLimit},
	{"loads", "a step -1", func(b *api.Bed) { b.Adds = []api.Add{{Step: -1, Pressure: "x"}} }, api.ErrArg},
	{"loads", "a step far back", func(b *api.Bed) { b.Adds = []api.Add{{Step: -1 << 63, Pressure: "1"}} }, api.ErrArg},
	{"loads", "a step 201", func(b *api.Bed) { b.Adds = []api.Add{{Step: 201, Pressure: "x"}} }, api.ErrArg},
	{"loads", "a step far on", func(b *api.Bed) { b.Adds = []api.Add{{Step: 1<<63 - 1, Pressure: "1"}} }, api.ErrArg},
	{"loads", "a step back", func(b *api.Bed) { b.Adds = []api.Add{{Step: 3, Pressure: "1"}, {Step: 2, Pressure: "x"}} }, api.ErrArg},
	{"loads", "no number", func(b *api.Bed) { b.Adds = []api.Add{{Step: 3, Pressure: "1"}, {Step: 3}} }, api.ErrForm},
	{"loads", "too long", func(b *api.Bed) { b.Adds = []api.Add{{Step: 200, Pressure: "-1/10001"}} }, api.ErrLimit},
	{"loads", "below 0", func(b *api.Bed) { b.Adds = []api.Add{{Step: 0, Pressure: "-1"}} }, api.ErrArg},
}

// wrongRoutes are changes of the example, part by part in the order of CheckRoute, with the error that each one makes.
var wrongRoutes = []struct {
	part, what string
	change     func(r *api.Route)
	want       api.Errno
}{
	{"cuts", "13 excavations", func(r *api.Route) { r.Cuts = slices.Repeat(r.Cuts, 13) }, api.ErrLimit},
	{"cuts", "13 excavations that are none", func(r *api.Route) { r.Cuts = make([]api.Cut, 13) }, api.ErrLimit},
	{"cuts", "nothing in it", func(r *api.Route) { r.Cuts[0] = api.Cut{} }, api.ErrArg},
	{"cuts", "X too far", func(r *api.Route) { r.Cuts[0].X, r.Cuts[0].Low = 100001, "x" }, api.ErrArg},
	{"cuts", "X too far back", func(r *api.Route) { r.Cuts[0].X, r.Cuts[0].Low = -100001, "10000" }, api.ErrArg},
	{"cuts", "X as far as can be", func(r *api.Route) { r.Cuts[0].X = -1 << 63 }, api.ErrArg},
	{"cuts", "Half 0", func(r *api.Route) { r.Cuts[0].Half, r.Cuts[0].High = 0, "x" }, api.ErrArg},
	{"cuts", "Half below 0", func(r *api.Route) { r.Cuts[0].Half = -10 }, api.ErrArg},
	{"cuts", "Half too great", func(r *api.Route) { r.Cuts[0].Half, r.Cuts[0].High = 10001, "x" }, api.ErrArg},
	{"cuts", "Half as great as can be", func(r *api.Route) { r.Cuts[0].Half = 1<<63 - 1 }, api.ErrArg},
	{"cuts", "Low no number", func(r *api.Route) { r.Cuts[0].Low, r.Cuts[0].High = "", "10000" }, api.ErrForm},
	{"cuts", "Low too long", func(r *api.Route) { r.Cuts[0].Low, r.Cuts[0].High = "-10000", "x" }, api.ErrLimit},
	{"cuts", "High no number", func(r *api.Route) { r.Cuts[0].Low, r.Cuts[0].High = "-1", "x" }, api.ErrForm},
	{"cuts", "High too long", func(r *api.Route) { r.Cuts[0].Low, r.Cuts[0].High = "-1", "-1/10000" }, api.ErrLimit},
	{"cuts", "Low below 0", func(r *api.Route) { r.Cuts[0].Low = "-1/9999" }, api.ErrArg},
	{"cuts", "Low greater than High", func(r *api.Route) { r.Cuts[0].Low, r.Cuts[0].High = "9999/9998", "1" }, api.ErrArg},
	{"houses", "17 buildings", func(r *api.Route) { r.Houses = slices.Repeat(r.Houses, 17) }, api.ErrLimit},
	{"houses", "17 buildings that are none", func(r *api.Route) { r.Houses = make([]api.House, 17) }, api.ErrLimit},
	{"houses", "no name", func(r *api.Route) { r.Houses[0] = api.House{} }, api.ErrName},
	{"houses", "a name of 17 bytes", func(r *api.Route) { r.Houses[0].Name = strings.Repeat("a", 17) }, api.ErrName},
	{"houses", "a name that begins with a digit", func(r *api.Route) { r.Houses[0].Name = "1h" }, api.ErrName},
	{"houses", "a name with a great letter", func(r *api.Route) { r.Houses[0].Name = "hH" }, api.ErrName},
	{"houses", "a name of any bytes", func(r *api.Route) { r.Houses[0].Name = "h\x00\xff" }, api.ErrName},
	{"houses", "twice", func(r *api.Route) {
		r.Houses = append(r.Houses, api.House{Name: "g", From: 1, To: 2}, api.House{Name: "h"})
	}, api.ErrTwice},
	{"houses", "From too far back", func(r *api.Route) { r.Houses[0].From = -100001 }, api.ErrArg},
	{"houses", "From too far", func(r *api.Route) { r.Houses[0].From, r.Houses[0].To = 100001, 100002 }, api.ErrArg},
	{"houses", "To too far", func(r *api.Route) { r.Houses[0].To = 100001 }, api.ErrArg},
	{"houses", "To as far as can be", func(r *api.Route) { r.Houses[0].To = 1<<63 - 1 }, api.ErrArg},
	{"houses", "To too far back", func(r *api.Route) { r.Houses[0].To = -1 << 63 }, api.ErrArg},
	{"houses", "no width", func(r *api.Route) { r.Houses[0].From = 10 }, api.ErrArg},
	{"houses", "back", func(r *api.Route) { r.Houses[0].From = 11 }, api.ErrArg},
	{"limits", "7 limits", func(r *api.Route) { r.Limits = numbers("1 2 3 4 5 6 7") }, api.ErrLimit},
	{"limits", "7 limits that are none", func(r *api.Route) { r.Limits = make([]api.Frac, 7) }, api.ErrLimit},
	{"limits", "no number", func(r *api.Route) { r.Limits[1] = "2/10" }, api.ErrForm},
	{"limits", "too long", func(r *api.Route) { r.Limits[1] = "-10000" }, api.ErrLimit},
	{"limits", "0", func(r *api.Route) { r.Limits[0] = "0" }, api.ErrArg},
	{"limits", "below 0", func(r *api.Route) { r.Limits[0] = "-1/20" }, api.ErrArg},
	{"limits", "twice", func(r *api.Route) { r.Limits[1] = "1/20" }, api.ErrArg},
	{"limits", "falling", func(r *api.Route) { r.Limits[1] = "499/9999" }, api.ErrArg},
}

// TestCheckBed: P5.1, the errors of a bed.
func TestCheckBed(t *testing.T) {
	equal(t, "the example", settle.CheckBed(exampleBed()), api.OK)
	for _, c := range wrongBeds {
		b := exampleBed()
		c.change(&b)
		equal(t, c.part+": "+c.what, settle.CheckBed(b), c.want)
	}
}

// TestCheckRoute: P5.1, the errors of a route.
func TestCheckRoute(t *testing.T) {
	equal(t, "the example", settle.CheckRoute(exampleRoute()), api.OK)
	for _, c := range wrongRoutes {
		r := exampleRoute()
		c.change(&r)
		equal(t, c.part+": "+c.what, settle.CheckRoute(r), c.want)
	}
}

// TestCheckOrder: P5.1 and R1, of the errors in two parts the first one counts.
func TestCheckOrder(t *testing.T) {
	for i, first := range wrongBeds {
		for _, then := range wrongBeds[i+1:] {
			if first.part != then.part {
				b := exampleBed()
				then.change(&b)
				first.change(&b)
				equal(t, first.part+": "+first.what+", "+then.part+": "+then.what, settle.CheckBed(b), first.want)
			}
		}
	}
	for i, first := range wrongRoutes {
		for _, then := range wrongRoutes[i+1:] {
			if first.part != then.part {
				r := exampleRoute()
				then.change(&r)
				first.change(&r)
				equal(t, first.part+": "+first.what+", "+then.part+": "+then.what, settle.CheckRoute(r), first.want)
			}
		}
	}
}

// TestCheckFirstElement: P5.1 and R1, of two elements of a list the first one counts, whatever the errors are.
func TestCheckFirstElement(t *testing.T) {
	b := exampleBed()
	b.Slices = numbers("-1 x 10000")
	equal(t, "slices", settle.CheckBed(b), api.ErrArg)
	b.Slices = numbers("10000 x -1")
	equal(t, "slices", settle.CheckBed(b), api.ErrLimit)
	b = exampleBed()
	b.Adds = []api.Add{{Step: 3, Pressure: "-1"}, {Step: 2, Pressure: "x"}}
	equal(t, "loads", settle.CheckBed(b), api.ErrArg)
	b.Adds[0].Pressure = "10000"
	equal(t, "loads", settle.CheckBed(b), api.ErrLimit)
	b.Adds = []api.Add{{Step: 3, Pressure: "x"}, {Step: -1}}
	equal(t, "loads", settle.CheckBed(b), api.ErrForm)
	r := exampleRoute()
	r.Cuts = []api.Cut{{X: 0, Half: 1, Low: "2", High: "1"}, {X: 0, Half: 1, Low: "x", High: "1"}}
	equal(t, "cuts", settle.CheckRoute(r), api.ErrArg)
	r.Cuts[0].Low = "1/10000"
	equal(t, "cuts", settle.CheckRoute(r), api.ErrLimit)
	r.Cuts[0].Low, r.Cuts[1].X = "x", 1<<62
	equal(t, "cuts", settle.CheckRoute(r), api.ErrForm)
	r = exampleRoute()
	r.Houses = []api.House{{Name: "a", From: 1, To: 1}, {Name: "a"}, {Name: ""}}
	equal(t, "houses", settle.CheckRoute(r), api.ErrArg)
	r.Houses[0].To = 2
	equal(t, "houses", settle.CheckRoute(r), api.ErrTwice)
	r.Houses[1].Name = "A"
	equal(t, "houses", settle.CheckRoute(r), api.ErrName)
	r = exampleRoute()
	r.Limits = numbers("0 x 10000")
	equal(t, "limits", settle.CheckRoute(r), api.ErrArg)
	r.Limits = numbers("1 10000 x")
	equal(t, "limits", settle.CheckRoute(r), api.ErrLimit)
}

// TestCheckNumbers: P5.1, each number of a bed and a route has at most four digits above or below.
func TestCheckNumbers(t *testing.T) {
	beds := map[string]func(b *api.Bed, a api.Frac){
		"slice": func(b *api.Bed, a api.Frac) { b.Slices[1] = a },
		"Rate":  func(b *api.Bed, a api.Frac) { b.Rate = a },
		"Soft":  func(b *api.Bed, a api.Frac) { b.Soft = a },
		"load":  func(b *api.Bed, a api.Frac) { b.Adds = []api.Add{{Pressure: a}} },
	}
	routes := map[string]func(r *api.Route, a api.Frac){
		"Low":   func(r *api.Route, a api.Frac) { r.Cuts[0].Low = a },
		"High":  func(r *api.Route, a api.Frac) { r.Cuts[0].High = a },
		"limit": func(r *api.Route, a api.Frac) { r.Limits = []api.Frac{a} },
	}
	check := func(a api.Frac, want api.Errno, good string) {
		t.Helper()
		for what, change := range beds {
			b := exampleBed()
			change(&b, a)
			if want != api.OK || strings.Contains(good, what) {
				equal(t, fmt.Sprintf("%s %.20s", what, a), settle.CheckBed(b), want)
			}
		}
		for what, change := range routes {
			r := exampleRoute()
			change(&r, a)
			if want != api.OK || strings.Contains(good, what) {
				equal(t, fmt.Sprintf("%s %.20s", what, a), settle.CheckRoute(r), want)
			}
		}
	}
	for _, c := range badNumbers {
		check(c.number, c.want, "")
	}
	check("0", api.OK, "slice load Low")
	check("9999", api.OK, "slice Soft load High limit")
	check("1/9999", api.OK, "slice Rate Soft load Low limit")
	check("9998/9999", api.OK, "slice Soft load Low limit")
	check("1/2", api.OK, "slice Rate Soft load Low limit")
	check("4999/9999", api.OK, "slice Rate Soft load Low limit")
	check("9999/9998", api.OK, "slice Soft load Low limit")
}

// largestBed is a bed with as much of everything as may be.
func largestBed() api.Bed {
	b := api.Bed{Slices: slices.Repeat(numbers("9999/9998"), 32), Rate: "4999/9999", Soft: "9998/9997", Below: true}
	for range 12 {
		b.Adds = append(b.Adds, api.Add{Step: 200, Pressure: "9999"})
	}
	return b
}

// largestRoute is a route with as much of everything as may be.
func largestRoute() api.Route {
	r := api.Route{Limits: numbers("1/9999 1/9998 1/9997 1 9998 9999")}
	for k := range 12 {
		r.Cuts = append(r.Cuts, api.Cut{X: 100000 * (2*(k%2) - 1), Half: 10000 - 9999*(k%3/2), Low: "9997/9998", High: "9999"})
	}
	for k := range 16 {
		r.Houses = append(r.Houses, api.House{Name: fmt.Sprintf("abcdefghijklm-%02d", k), From: -100000, To: 100000})
	}
	return r
}

// TestCheckLimits: P5.1 and R7, at most n includes n.
func TestCheckLimits(t *testing.T) {
	equal(t, "a bed, all at once", settle.CheckBed(largestBed()), api.OK)
	equal(t, "the least bed", settle.CheckBed(api.Bed{Slices: numbers("0"), Rate: "1/9999", Soft: "1/9999", Adds: []api.Add{}}), api.OK)
	equal(t, "no bed", settle.CheckBed(api.Bed{}), api.ErrArg)
	b := exampleBed()
	b.Adds = []api.Add{{Step: 0, Pressure: "0"}, {Step: 0, Pressure: "1"}, {Step: 200, Pressure: "2"}, {Step: 200, Pressure: "2"}}
	equal(t, "loads of one step", settle.CheckBed(b), api.OK)
	b.Slices = make([]api.Frac, 1000000)
	equal(t, "long lists", settle.CheckBed(b), api.ErrLimit)
	equal(t, "a route, all at once", settle.CheckRoute(largestRoute()), api.OK)
	equal(t, "the least route", settle.CheckRoute(api.Route{}), api.OK)
	equal(t, "empty lists", settle.CheckRoute(api.Route{Cuts: []api.Cut{}, Houses: []api.House{}, Limits: []api.Frac{}}), api.OK)
	r := exampleRoute()
	r.Cuts[0].Low = r.Cuts[0].High
	r.Cuts = append(r.Cuts, r.Cuts[0])
	equal(t, "an excavation twice, of ground that is known", settle.CheckRoute(r), api.OK)
	r.Cuts = make([]api.Cut, 1000000)
	equal(t, "long lists", settle.CheckRoute(r), api.ErrLimit)
}
