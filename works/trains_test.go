package works_test

import (
	"fmt"
	"math/rand"
	"slices"
	"testing"

	"underpin/api"
	"underpin/works"
)

// TestExampleTrain: the chapter's example of trains.
func TestExampleTrain(t *testing.T) {
	l := lineOf([]int{3}, 1, 1)
	table := [][]api.Call{{{Station: 0, Arrive: 0, Leave: 0}, {Station: 1, Arrive: 3, Leave: 5}}}
	way, e := works.Insert(l, table, api.Train{From: 1, To: 0, Ready: 0})
	equal(t, "Insert", []any{way, e}, []any{[]api.Call{{Station: 1, Arrive: 6, Leave: 6}, {Station: 0, Arrive: 9, Leave: 9}}, api.OK})
}

// through is a way over all stations of a line of so many, with minutes of 3 for each section; it begins at a time.
func through(stations, from int) []api.Call {
	var way []api.Call
	for i := range stations {
		way = append(way, api.Call{Station: i, Arrive: from + 3*i, Leave: from + 3*i})
	}
	return way
}

// TestFree: P8.2, what is free and what is not.
func TestFree(t *testing.T) {
	call := func(station, arrive, leave int) api.Call {
		return api.Call{Station: station, Arrive: arrive, Leave: leave}
	}
	to := func(leave int) []api.Call { return []api.Call{call(0, leave, leave), call(1, leave+3, leave+3)} }
	from := func(leave int) []api.Call { return []api.Call{call(1, leave, leave), call(0, leave+3, leave+3)} }
	one, two := lineOf([]int{3}, 1, 1), lineOf([]int{3}, 2, 2)
	for _, c := range []struct {
		what  string
		l     api.Line
		table [][]api.Call
		want  bool
	}{
		{"no trains", one, nil, true},
		{"one train", one, [][]api.Call{to(5)}, true},
		{"one behind the other", one, [][]api.Call{to(5), to(8)}, true},
		{"one in the last minute of the other", two, [][]api.Call{to(5), to(7)}, false},
		{"the later one first", two, [][]api.Call{to(7), to(5)}, false},
		{"against one another", two, [][]api.Call{to(5), from(6)}, false},
		{"against one another, in the first minute", two, [][]api.Call{to(5), from(5)}, false},
		{"against one another, in the last minute", two, [][]api.Call{to(5), from(7)}, false},
		{"leaves as the other arrives", two, [][]api.Call{to(5), from(8)}, true},
		{"leaves as the other arrives, without room", one, [][]api.Call{to(5), from(8)}, false},
		{"leaves a minute later, with room for one", one, [][]api.Call{to(5), from(9)}, true},
		{"stays as the other arrives", one, [][]api.Call{to(5), {call(1, 2, 8)}}, false},
		{"stays until the other arrives", one, [][]api.Call{to(5), {call(1, 2, 7)}}, true},
		{"comes behind the other one", one, [][]api.Call{to(5), {call(1, 9, 9)}}, true},
		{"room for two", two, [][]api.Call{{call(1, 2, 8)}, {call(1, 8, 9)}, {call(1, 9, 10)}}, true},
		{"no room for three", two, [][]api.Call{{call(1, 2, 8)}, {call(1, 8, 9)}, {call(1, 8, 10)}}, false},
		{"no room at all", lineOf([]int{3}, 1, 0), [][]api.Call{to(5)}, false},
		{"no room where nobody is", lineOf([]int{3}, 1, 0), [][]api.Call{to(5)[:1]}, true},
		{"different sections", lineOf([]int{3, 3}, 1, 2, 1), [][]api.Call{to(5), {call(2, 5, 5), call(1, 8, 8)}}, true},
		{"the last time", one, [][]api.Call{{call(1, 0, api.MaxTime)}, {call(0, api.MaxTime, api.MaxTime)}}, true},
		{"two at the last time", one, [][]api.Call{{call(1, 0, api.MaxTime)}, {call(1, api.MaxTime, api.MaxTime)}}, false},
	} {
		isFree, e := works.Free(c.l, c.table)
		equal(t, c.what, []any{isFree, e}, []any{c.want, api.OK})
		equal(t, c.what+", minute by minute", free(c.l, c.table), c.want)
	}
}

// TestFreeRandom: P8.2, minute by minute.
func TestFreeRandom(t *testing.T) {
	r := rand.New(rand.NewSource(101))
	yes, no := 0, 0
	for range 4000 {
		l := randomLine(r, 5)
		table := append(randomTable(r, l, r.Intn(8), 0), randomWay(r, l, r.Intn(15)))
		want := free(l, table)
		isFree, e := works.Free(l, table)
		equal(t, said(l, table), []any{isFree, e}, []any{want, api.OK})
		if want {
			yes++
		} else {
			no++
		}
	}
	if yes < 500 || no < 500 {
		t.Error("too few:", yes, no)
	}
}

// eachWay calls a function with all ways from a call on to a station that arrive by a last time, with the last Leave at the
// last Arrive.
func eachWay(l api.Line, ahead []api.Call, to, last int, look func(way []api.Call)) {
	at := &ahead[len(ahead)-1]
	if at.Station == to {
		look(ahead)
		return
	}
	next, run := at.Station+1, l.Run[min(at.Station, len(l.Run)-1)]
	if to < at.Station {
		next, run = at.Station-1, l.Run[at.Station-1]
	}
	for at.Leave = at.Arrive; at.Leave+run <= last; at.Leave++ {
		arrive := at.Leave + run
		eachWay(l, append(slices.Clip(ahead), api.Call{Station: next, Arrive: arrive, Leave: arrive}), to, last, look)
	}
	at.Leave = at.Arrive
}

// insertBy is the way that Insert is to return, among all that arrive by a last time; nil if there is none.
func insertBy(l api.Line, table [][]api.Call, t api.Train, last int) []api.Call {
	var best []api.Call
	for arrive := t.Ready; arrive <= last; arrive++ {
		eachWay(l, []api.Call{{Station: t.From, Arrive: arrive, Leave: arrive}}, t.To, last, func(way []api.Call) {
			end := way[len(way)-1].Arrive
			if best != nil && (end > best[len(best)-1].Arrive || end == best[len(best)-1].Arrive && slices.Compare(timesOf(way), timesOf(best)) >= 0) {
				return
			}
			if free(l, append(slices.Clip(table), way)) {
				best = slices.Clone(way)
			}
		})
	}
	return best
}

// TestInsertRandom: P8.2 and P8.6, no way that leaves the timetable free arrives earlier, or has lesser times.
func TestInsertRandom(t *testing.T) {
	r := rand.New(rand.NewSource(102))
	waits, stays, none := 0, 0, 0
	for range 800 {
		l := randomLine(r, 3)
		table := randomTable(r, l, 15, 0)
		train := api.Train{From: r.Intn(len(l.Room)), To: r.Intn(len(l.Room)), Ready: r.Intn(10)}
		way, e := works.Insert(l, table, train)
		if e != api.OK {
			none++
			equal(t, said(l, table, train), e, api.ErrScope)
			equal(t, said(l, table, train), insertBy(l, table, train, 30), []api.Call(nil))
			continue
		}
		equal(t, said(l, table, train), way, insertBy(l, table, train, way[len(way)-1].Arrive))
		if way[0].Leave > way[0].Arrive {
			waits++
		}
		for _, c := range way[1:] {
			stays += min(1, c.Leave-c.Arrive)
		}
	}
	if waits < 50 || stays < 20 || none < 50 {
		t.Error("too few:", waits, stays, none)
	}
}

// grid is which minutes of stations and sections are free for one more train, in the order of its way.
type grid struct {
	runs               []int
	stations, sections [][]bool
}

// gridOf is the grid of a train.
func gridOf(l api.Line, table [][]api.Call, t api.Train, last int) grid {
	var g grid
	step := 1
	if t.To < t.From {
		step = -1
	}
	for station := t.From; ; station += step {
		room, open := make([]bool, last+1), make([]bool, last+1)
		for minute := range room {
			there, between := 0, 0
			for _, way := range table {
				for i, c := range way {
					if c.Station == station && minute >= c.Arrive && minute <= c.Leave {
						there++
					}
					if i+1 < len(way) && minute >= c.Leave && minute < way[i+1].Arrive && min(c.Station, way[i+1].Station) == min(station, station+step) {
						between++
					}
				}
			}
			room[minute], open[minute] = there < l.Room[station], between == 0
		}
		g.stations, g.sections = append(g.stations, room), append(g.sections, open)
		if station == t.To {
			return g
		}
		g.runs = append(g.runs, l.Run[min(station, station+step)])
	}
}

// leaves tells whether a train may leave a station in a minute, so that it arrives at the next one by the last time.
func (g grid) leaves(station, minute int) bool {
	run := g.runs[station]
	if minute+run >= len(g.stations[0]) || !g.stations[station][minute] || !g.stations[station+1][minute+run] {
		return false
	}
	return !slices.Contains(g.sections[station][minute:minute+run], false)
}

// comes tells, for each station and minute, whether a train that is there arrives at the last station at a time.
func (g grid) comes(end int) [][]bool {
	last := len(g.runs)
	out := make([][]bool, last+1)
	for station := last; station >= 0; station-- {
		out[station] = make([]bool, len(g.stations[0])+1)
		for minute := len(g.stations[0]) - 1; minute >= 0; minute-- {
			switch {
			case station == last:
				out[station][minute] = minute == end && g.stations[station][minute]
			case g.stations[station][minute]:
				goes := g.leaves(station, minute) && out[station+1][minute+g.runs[station]]
				out[station][minute] = goes || out[station][minute+1]
			}
		}
	}
	return out
}

// insertOn is the way that Insert is to return, found minute by minute; nil if none arrives by a last time.
func insertOn(l api.Line, table [][]api.Call, t api.Train, last int) []api.Call {
	g := gridOf(l, table, t, last)
	for end := t.Ready; end <= last; end++ {
		comes := g.comes(end)
		minute := slices.Index(comes[0][t.Ready:], true)
		if minute < 0 {
			continue
		}
		minute += t.Ready
		var way []api.Call
		for station := range comes {
			number := t.From + station
			if t.To < t.From {
				number = t.From - station
			}
			c := api.Call{Station: number, Arrive: minute, Leave: minute}
			for station < len(g.runs) && (!g.leaves(station, c.Leave) || !comes[station+1][c.Leave+g.runs[station]]) {
				c.Leave++
			}
			way = append(way, c)
			if station < len(g.runs) {
				minute = c.Leave + g.runs[station]
			}
		}
		return way
	}
	return nil
}

// TestInsertBusy: P8.2 and P8.6, with many trains on longer lines, minute by minute.
func TestInsertBusy(t *testing.T) {
	r := rand.New(rand.NewSource(103))
	waits, stays := 0, 0
	for range 400 {
		l := api.Line{Room: []int{1 + r.Intn(2)}}
		for range 2 + r.Intn(5) {
			l.Run, l.Room = append(l.Run, 1+r.Intn(3)), append(l.Room, 1+r.Intn(3))
		}
		table := randomTable(r, l, 31, 0)
		train := api.Train{From: r.Intn(2), To: len(l.Room) - 1 - r.Intn(2), Ready: r.Intn(6)}
		if r.Intn(2) == 0 {
			train.From, train.To = train.To, train.From
		}
		way, e := works.Insert(l, table, train)
		equal(t, said(l, table, train), []any{way, e}, []any{insertOn(l, table, train, 80), api.OK})
		if way[0].Leave > way[0].Arrive {
			waits++
		}
		for _, c := range way[1:] {
			stays += min(1, c.Leave-c.Arrive)
		}
	}
	if waits < 50 || stays < 50 {
		t.Error("too few:", waits, stays)
	}
}

// TestInsertOracles: both searches of these tests find the same.
func TestInsertOracles(t *testing.T) {
	r := rand.New(rand.NewSource(104))
	for range 200 {
		l := randomLine(r, 3)
		table := randomTable(r, l, 12, 0)
		train := api.Train{From: r.Intn(len(l.Room)), To: r.Intn(len(l.Room)), Ready: r.Intn(10)}
		equal(t, said(l, table, train), insertOn(l, table, train, 24), insertBy(l, table, train, 24))
	}
}

// calls writes a way: at each station its number, Arrive and Leave.
func calls(way []api.Call) string {
	s := ""
	for _, c := range way {
		s += fmt.Sprintf("%d:%d-%d ", c.Station, c.Arrive, c.Leave)
	}
	return s
}

// TestInsert: P8.2, ways where the choice matters.
func TestInsert(t *testing.T) {
	stay := func(station, arrive, leave int) []api.Call {
		return []api.Call{{Station: station, Arrive: arrive, Leave: leave}}
	}
	three := lineOf([]int{3, 3}, 1, 2, 1)
	for _, c := range []struct {
		what  string
		l     api.Line
		table [][]api.Call
		t     api.Train
		want  string
	}{
		{"one station", lineOf(nil, 1), nil, api.Train{Ready: 5}, "0:5-5 "},
		{"one station, behind another train", lineOf(nil, 1), [][]api.Call{stay(0, 3, 9)}, api.Train{Ready: 5}, "0:10-10 "},
		{"ahead of it", lineOf(nil, 1), [][]api.Call{stay(0, 6, 9)}, api.Train{Ready: 5}, "0:5-5 "},
		{"to the same station of a line", three, nil, api.Train{From: 2, To: 2, Ready: 7}, "2:7-7 "},
		{"there", three, nil, api.Train{To: 2, Ready: 7}, "0:7-7 1:10-10 2:13-13 "},
		{"back", three, nil, api.Train{From: 2, Ready: 7}, "2:7-7 1:10-10 0:13-13 "},
		{"a part", three, nil, api.Train{From: 1, To: 2, Ready: 7}, "1:7-7 2:10-10 "},
		{"waits where it is put, as long as can be", three, [][]api.Call{through(3, 7)}, api.Train{To: 2, Ready: 0}, "0:0-0 1:3-3 2:6-6 "},
		{"is put there early, and leaves late", lineOf([]int{3}, 2, 1), [][]api.Call{stay(1, 0, 50)}, api.Train{To: 1, Ready: 0}, "0:0-48 1:51-51 "},
		{"leaves early, and stays on the way", three, [][]api.Call{stay(2, 0, 50)}, api.Train{To: 2, Ready: 0}, "0:0-0 1:3-48 2:51-51 "},
		{"is put there as early as it can stay", three, [][]api.Call{stay(0, 4, 6), stay(1, 0, 20), stay(1, 0, 20)}, api.Train{To: 2, Ready: 0}, "0:7-18 1:21-21 2:24-24 "},
		{"gives way on the way", three, [][]api.Call{{{Station: 2, Arrive: 2, Leave: 2}, {Station: 1, Arrive: 5, Leave: 5}, {Station: 0, Arrive: 8, Leave: 8}}}, api.Train{To: 2, Ready: 1}, "0:1-1 1:4-5 2:8-8 "},
		{"no gap is long enough", lineOf([]int{3}, 2, 2), [][]api.Call{through(2, 2), through(2, 7), through(2, 12)}, api.Train{To: 1, Ready: 0}, "0:0-15 1:18-18 "},
		{"a gap that is just long enough", lineOf([]int{3}, 2, 2), [][]api.Call{through(2, 2), through(2, 8), through(2, 12)}, api.Train{To: 1, Ready: 0}, "0:0-5 1:8-8 "},
		{"up to the last time", lineOf([]int{3}, 1, 1), nil, api.Train{To: 1, Ready: api.MaxTime - 3}, fmt.Sprintf("0:%d-%d 1:%d-%d ", api.MaxTime-3, api.MaxTime-3, api.MaxTime, api.MaxTime)},
		{"a train that never leaves", lineOf([]int{3}, 1, 1), [][]api.Call{stay(1, 5, api.MaxTime)}, api.Train{To: 1, Ready: 1}, "0:1-1 1:4-4 "},
		{"too late for it", lineOf([]int{3}, 1, 1), [][]api.Call{stay(1, 5, api.MaxTime)}, api.Train{To: 1, Ready: 2}, ""},
		{"until just ahead of the last time", lineOf([]int{3}, 1, 1), [][]api.Call{stay(1, 5, api.MaxTime-1)}, api.Train{To: 1, Ready: 2}, fmt.Sprintf("0:2-%d 1:%d-%d ", api.MaxTime-3, api.MaxTime, api.MaxTime)},
	} {
		way, e := works.Insert(c.l, c.table, c.t)
		switch c.want {
		case "":
			equal(t, c.what, []any{len(way), e}, []any{0, api.ErrScope})
		default:
			equal(t, c.what, []any{calls(way), e}, []any{c.want, api.OK})
		}
	}
}

// TestInsertFull: P8.2, P8.6 and R7, a line as long as can be takes 32 trains, one by one.
func TestInsertFull(t *testing.T) {
	r := rand.New(rand.NewSource(105))
	l := lineOf(slices.Repeat([]int{2}, 15), slices.Repeat([]int{2}, 16)...)
	var table [][]api.Call
	for range 32 {
		train := api.Train{From: r.Intn(16), To: r.Intn(16), Ready: r.Intn(60)}
		way, e := works.Insert(l, table, train)
		equal(t, said(table, train), []any{way, e}, []any{insertOn(l, table, train, 400), api.OK})
		table = append(table, way)
		isFree, e := works.Free(l, table)
		equal(t, said(table), []any{isFree, e, free(l, table)}, []any{true, api.OK, true})
	}
	_, e := works.Insert(l, table, api.Train{})
	equal(t, "33 trains", e, api.ErrLimit)
}
