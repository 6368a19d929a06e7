package works_test

import (
	"math/rand"
	"slices"
	"testing"

	"underpin/api"
	"underpin/works"
)

// TestExampleAir: the chapter's example of compressed air.
func TestExampleAir(t *testing.T) {
	next, e := works.Next(exampleTable(), []api.Dive{dive(100, 0, 50, 60)}, "ann", 100, 60, 0)
	equal(t, "Next", []any{next, e}, []any{dive(100, 1390, 1450, 1460), api.OK})
}

// threeRows is a table in which a row counts for less than one ahead of it.
func threeRows() api.AirTable {
	return api.AirTable{Rows: []api.AirRow{{Pressure: 50, Minutes: 60, Out: 3}, {Pressure: 100, Minutes: 30, Out: 10}, {Pressure: 80, Minutes: 90, Out: 7}}, Rest: 20, Day: 150}
}

// TestWayOut: P8.3, the first row that counts.
func TestWayOut(t *testing.T) {
	for _, c := range []struct {
		pressure, minutes, want int
		e                       api.Errno
	}{
		{0, 0, 3, api.OK}, {50, 60, 3, api.OK}, {51, 60, 7, api.OK}, {50, 61, 7, api.OK}, {51, 30, 10, api.OK}, {100, 30, 10, api.OK},
		{51, 31, 7, api.OK}, {80, 90, 7, api.OK}, {81, 31, 0, api.ErrNone}, {80, 91, 0, api.ErrNone}, {101, 0, 0, api.ErrNone}, {0, api.MaxTime, 0, api.ErrNone},
	} {
		out, e := works.WayOut(threeRows(), c.pressure, c.minutes)
		equal(t, said(c.pressure, c.minutes), []any{out, e}, []any{c.want, c.e})
	}
	_, e := works.WayOut(api.AirTable{}, 0, 0)
	equal(t, "no rows", e, api.ErrNone)
}

// TestFaults: P8.3, each rule, by just a minute.
func TestFaults(t *testing.T) {
	const none, order, table, out, rest, day = api.AfNone, api.AfOrder, api.AfTable, api.AfOut, api.AfRest, api.AfDay
	bob := func(d api.Dive) api.Dive {
		d.Worker = "bob"
		return d
	}
	for _, c := range []struct {
		what string
		l    []api.Dive
		want []api.AirFault
	}{
		{"none", nil, nil},
		{"one", []api.Dive{dive(50, 10, 70, 73)}, []api.AirFault{none}},
		{"In at Leave", []api.Dive{dive(50, 10, 10, 73)}, []api.AirFault{order}},
		{"In behind Leave", []api.Dive{dive(50, 10, 9, 73)}, []api.AirFault{order}},
		{"a minute", []api.Dive{dive(50, 10, 11, 14)}, []api.AirFault{none}},
		{"Out ahead of Leave", []api.Dive{dive(50, 10, 70, 69)}, []api.AirFault{order}},
		{"Out ahead of Leave, and no row", []api.Dive{dive(500, 10, 70, 69)}, []api.AirFault{order}},
		{"Out at Leave", []api.Dive{dive(50, 10, 70, 70)}, []api.AirFault{out}},
		{"too much pressure", []api.Dive{dive(101, 10, 11, 90)}, []api.AirFault{table}},
		{"too many minutes", []api.Dive{dive(50, 10, 101, 101)}, []api.AirFault{table}},
		{"just not too many", []api.Dive{dive(50, 10, 100, 107)}, []api.AirFault{none}},
		{"a minute too soon", []api.Dive{dive(80, 10, 100, 106)}, []api.AirFault{out}},
		{"more than is needed", []api.Dive{dive(80, 10, 100, 200)}, []api.AirFault{none}},
		{"rested", []api.Dive{dive(50, 10, 20, 23), dive(50, 43, 44, 47)}, []api.AirFault{none, none}},
		{"a minute too few", []api.Dive{dive(50, 10, 20, 23), dive(50, 42, 43, 46)}, []api.AirFault{none, rest}},
		{"another worker", []api.Dive{dive(50, 10, 20, 23), bob(dive(50, 12, 13, 16))}, []api.AirFault{none, none}},
		{"another worker between", []api.Dive{dive(50, 10, 20, 23), bob(dive(50, 12, 13, 16)), dive(50, 40, 41, 44)}, []api.AirFault{none, none, rest}},
		{"both at the same time", []api.Dive{dive(50, 10, 20, 23), dive(50, 10, 20, 23)}, []api.AirFault{none, rest}},
		{"a rest from the last one alone", []api.Dive{dive(50, 10, 20, 100), dive(50, 40, 41, 44), dive(50, 64, 65, 68)}, []api.AirFault{none, rest, none}},
		{"out too soon, and not rested", []api.Dive{dive(50, 10, 20, 23), dive(50, 42, 43, 45)}, []api.AirFault{none, out}},
		{"all of a day", []api.Dive{dive(80, 0, 90, 97), dive(50, 200, 260, 263)}, []api.AirFault{none, none}},
		{"a minute more", []api.Dive{dive(80, 0, 90, 97), dive(50, 200, 261, 270)}, []api.AirFault{none, day}},
		{"a minute more of three", []api.Dive{dive(80, 0, 50, 97), dive(50, 200, 260, 263), dive(50, 300, 341, 344)}, []api.AirFault{none, none, day}},
		{"not rested, and a minute more", []api.Dive{dive(80, 0, 90, 97), dive(50, 116, 177, 190)}, []api.AirFault{none, rest}},
		{"another worker's minutes", []api.Dive{dive(80, 0, 90, 97), bob(dive(50, 200, 261, 270))}, []api.AirFault{none, none}},
		{"out of the day but for too much", []api.Dive{dive(80, 0, 90, 97), dive(80, 1379, 1469, 1476)}, []api.AirFault{none, day}},
		{"out of the day by enough", []api.Dive{dive(80, 0, 90, 97), dive(80, 1380, 1470, 1477)}, []api.AirFault{none, none}},
		{"minutes of a stay that breaks a rule", []api.Dive{dive(500, 0, 91, 92), dive(50, 200, 260, 263)}, []api.AirFault{table, day}},
		{"a stay that ends ahead of its begin", []api.Dive{dive(50, 200, 10, 180), dive(80, 200, 290, 297)}, []api.AirFault{order, none}},
		{"a stay that goes on behind this one", []api.Dive{dive(50, 0, 1000, 20), dive(50, 110, 112, 115), dive(50, 146, 147, 150), dive(50, 171, 172, 175)}, []api.AirFault{order, none, none, day}},
		{"the same minutes twice", []api.Dive{dive(50, 0, 80, 9), dive(50, 29, 100, 110), dive(50, 130, 131, 134)}, []api.AirFault{order, day, day}},
	} {
		faults, e := works.Faults(threeRows(), c.l)
		equal(t, c.what, []any{said(faults), e}, []any{said(c.want), api.OK})
		equal(t, c.what+", minute by minute", said(faultsOf(threeRows(), c.l)), said(c.want))
	}
}

// TestLongDay: P8.3, a stay of more than a day counts 1440 minutes.
func TestLongDay(t *testing.T) {
	long := api.AirTable{Rows: []api.AirRow{{Pressure: 50, Minutes: 3000}}, Day: 1440}
	l := []api.Dive{dive(50, 0, 1000, 1000), dive(50, 1000, 2440, 2440), dive(50, 2440, 5000, 5000), dive(50, 5000, 5001, 5001), dive(50, 6440, 6441, 6441)}
	faults, e := works.Faults(long, l)
	equal(t, "a whole day", []any{faults, e}, []any{slices.Repeat([]api.AirFault{api.AfNone}, 5), api.OK})
	long.Day--
	faults, e = works.Faults(long, l)
	equal(t, "a minute less", []any{faults, e}, []any{[]api.AirFault{api.AfNone, api.AfDay, api.AfDay, api.AfDay, api.AfNone}, api.OK})
	next, e := works.Next(long, nil, "ann", 50, 1440, 0)
	equal(t, "never", []any{next, e}, []any{api.Dive{}, api.ErrScope})
	next, e = works.Next(long, l[:1], "ann", 50, 1439, 0)
	equal(t, "a minute later", []any{next, e}, []any{dive(50, 1001, 2440, 2440), api.OK}) // not at 1000: minute 999 is in that day
}

// TestFaultsRandom: P8.3, minute by minute.
func TestFaultsRandom(t *testing.T) {
	r := rand.New(rand.NewSource(111))
	var seen [6]int
	for range 3000 {
		table := randomAirTable(r)
		l := randomDives(r, table, 12)
		want := faultsOf(table, l)
		faults, e := works.Faults(table, l)
		equal(t, said(table, l), []any{said(faults), e}, []any{said(want), api.OK})
		for _, f := range faults {
			seen[f]++
		}
	}
	for f, n := range seen {
		if n < 300 {
			t.Error("too few:", api.AirFault(f), n)
		}
	}
}

// nextBy is the stay that Next is to return, found minute by minute; false if there is none.
func nextBy(t api.AirTable, l []api.Dive, worker string, pressure, minutes, ready int) (api.Dive, bool) {
	row, _ := rowOf(t, pressure, minutes)
	for in := ready; in <= api.MaxTime; in++ {
		d := api.Dive{Worker: worker, Pressure: pressure, In: in, Leave: in + minutes, Out: in + minutes + row.Out}
		if len(l) > 0 && l[len(l)-1].In > in || d.Out > api.MaxTime {
			continue
		}
		if faultOf(t, append(slices.Clip(l), d)) == api.AfNone {
			return d, true
		}
	}
	return api.Dive{}, false
}

// withoutFaults are the stays of a list that break no rule, when those that do are taken out one by one.
func withoutFaults(t api.AirTable, l []api.Dive) []api.Dive {
	var out []api.Dive
	for _, d := range l {
		if faultOf(t, append(slices.Clip(out), d)) == api.AfNone {
			out = append(out, d)
		}
	}
	return out
}

// TestNextRandom: P8.3 and P8.7, minute by minute; nobody breaks a rule by what Next returns.
func TestNextRandom(t *testing.T) {
	r := rand.New(rand.NewSource(112))
	rested, days, none := 0, 0, 0
	for range 2000 {
		table := randomAirTable(r)
		l := withoutFaults(table, randomDives(r, table, 12))
		worker := []string{"ann", "bob", "cy", "dan"}[r.Intn(4)]
		pressure, minutes, ready := r.Intn(31), 1+r.Intn(120), r.Intn(2)*r.Intn(1500)
		next, e := works.Next(table, l, worker, pressure, minutes, ready)
		alone(t, "Next", e, next)
		if _, counts := rowOf(table, pressure, minutes); !counts {
			equal(t, said(table, pressure, minutes), e, api.ErrNone)
			continue
		}
		if minutes > table.Day {
			none++
			equal(t, said(table, pressure, minutes), e, api.ErrScope)
			continue
		}
		want, _ := nextBy(table, l, worker, pressure, minutes, ready)
		equal(t, said(table, l, worker, pressure, minutes, ready), []any{next, e}, []any{want, api.OK})
		faults, e := works.Faults(table, append(slices.Clip(l), next))
		equal(t, "no fault", []any{faults, e}, []any{slices.Repeat([]api.AirFault{api.AfNone}, len(l)+1), api.OK})
		first := ready
		if len(l) > 0 {
			first = max(first, l[len(l)-1].In)
		}
		if next.In > first {
			rested++
		}
		if next.In > first+300 {
			days++
		}
	}
	if rested < 200 || days < 50 || none < 20 {
		t.Error("too few:", rested, days, none)
	}
}

// TestNext: P8.3, what Next waits for.
func TestNext(t *testing.T) {
	bob := dive(50, 500, 501, 504)
	bob.Worker = "bob"
	for _, c := range []struct {
		what                     string
		l                        []api.Dive
		pressure, minutes, ready int
		want                     api.Dive
		e                        api.Errno
	}{
		{"the first one", nil, 50, 60, 0, dive(50, 0, 60, 63), api.OK},
		{"when she is ready", nil, 50, 60, 7, dive(50, 7, 67, 70), api.OK},
		{"behind the rest", []api.Dive{dive(50, 10, 20, 23)}, 50, 60, 7, dive(50, 43, 103, 106), api.OK},
		{"behind a longer way out", []api.Dive{dive(50, 10, 20, 90)}, 80, 60, 7, dive(80, 110, 170, 177), api.OK},
		{"not ahead of another worker's In", []api.Dive{dive(50, 10, 20, 23), bob}, 50, 60, 7, dive(50, 500, 560, 563), api.OK},
		{"as the day allows", []api.Dive{dive(80, 10, 100, 107)}, 80, 61, 7, dive(80, 1390, 1451, 1458), api.OK},
		{"all that the day allows", []api.Dive{dive(80, 10, 100, 107)}, 50, 60, 7, dive(50, 127, 187, 190), api.OK},
		{"the last one", nil, 50, 60, api.MaxTime - 63, dive(50, api.MaxTime-63, api.MaxTime-3, api.MaxTime), api.OK},
		{"none", nil, 50, 60, api.MaxTime - 62, api.Dive{}, api.ErrScope},
		{"none behind the rest", []api.Dive{dive(50, 0, 20, api.MaxTime-82)}, 50, 60, 0, api.Dive{}, api.ErrScope},
		{"the last one behind the rest", []api.Dive{dive(50, 0, 20, api.MaxTime-83)}, 50, 60, 0, dive(50, api.MaxTime-63, api.MaxTime-3, api.MaxTime), api.OK},
		{"none behind a rest that goes on", []api.Dive{dive(50, 0, 20, api.MaxTime)}, 50, 60, api.MaxTime, api.Dive{}, api.ErrScope},
	} {
		next, e := works.Next(threeRows(), c.l, "ann", c.pressure, c.minutes, c.ready)
		equal(t, c.what, []any{next, e}, []any{c.want, c.e})
		byMinutes, _ := nextBy(threeRows(), c.l, "ann", c.pressure, c.minutes, c.ready)
		equal(t, c.what+", minute by minute", byMinutes, c.want)
	}
	full := api.AirTable{Rows: []api.AirRow{{Pressure: 50, Minutes: 60, Out: 3}}, Day: 1440}
	var l []api.Dive
	for i := range 128 {
		l = append(l, dive(50, 10*i, 10*i+5, 10*i+8))
	}
	next, e := works.Next(full, l, "ann", 50, 60, 0)
	equal(t, "behind 128 stays", []any{next, e}, []any{dive(50, 1278, 1338, 1341), api.OK})
}

// TestNextOneByOne: P8.7 and P0.5, stays planned one behind the other break no rule.
func TestNextOneByOne(t *testing.T) {
	r := rand.New(rand.NewSource(113))
	planned := 0
	for range 60 {
		table := randomAirTable(r)
		table.Rows = append(table.Rows, api.AirRow{Pressure: 40, Minutes: 300, Out: 50})
		var l []api.Dive
		for range 100 {
			next, e := works.Next(table, l, []string{"ann", "bob", "cy"}[r.Intn(3)], r.Intn(41), 1+r.Intn(table.Day), r.Intn(3000))
			if e == api.OK {
				l = append(l, next)
			}
		}
		planned += len(l)
		equal(t, said(table, l), faultsOf(table, l), slices.Repeat([]api.AirFault{api.AfNone}, len(l)))
	}
	if planned < 2000 {
		t.Error("too few:", planned)
	}
}

// TestMinuteLess: P8.7, a minute less makes no way out longer, if no row's Out is below that of a row ahead.
func TestMinuteLess(t *testing.T) {
	r := rand.New(rand.NewSource(114))
	shorter := 0
	for range 1000 {
		table := randomAirTable(r)
		slices.SortFunc(table.Rows, func(a, b api.AirRow) int { return a.Out - b.Out })
		pressure, minutes := r.Intn(31), 1+r.Intn(200)
		out, e := works.WayOut(table, pressure, minutes)
		if e != api.OK {
			continue
		}
		less, e := works.WayOut(table, pressure, minutes-1-r.Intn(minutes))
		equal(t, "still a row", e, api.OK)
		if less > out {
			t.Fatal("longer:", said(table, pressure, minutes, less, out))
		}
		if less < out {
			shorter++
		}
	}
	if shorter < 20 {
		t.Error("too few:", shorter)
	}
}
