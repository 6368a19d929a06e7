package works

import (
	"cmp"
	"slices"

	"underpin/api"
)

// section returns the number of the section between two stations that are neighbours.
func section(a, b api.Call) int {
	return min(a.Station, b.Station)
}

// track is what the trains of a timetable use of a line.
type track struct{ stations, sections []tally }

// newTrack returns the track of ways that are valid.
func newTrack(l api.Line, table [][]api.Call) track {
	var k track
	for _, room := range l.Room {
		k.stations = append(k.stations, newTally(room))
	}
	for range l.Run {
		k.sections = append(k.sections, newTally(1))
	}
	for _, way := range table {
		for i, c := range way {
			k.stations[c.Station].use(api.Span{Low: c.Arrive, High: c.Leave}, 1)
			if i > 0 {
				k.sections[section(way[i-1], c)].use(api.Span{Low: way[i-1].Leave, High: c.Arrive - 1}, 1)
			}
		}
	}
	return k
}

// isKept tells whether no train is where there is no room for it.
func (k track) isKept() bool {
	for _, tallies := range [][]tally{k.stations, k.sections} {
		for i := range tallies {
			if !tallies[i].isKept() {
				return false
			}
		}
	}
	return true
}

// queue is what waits, the first one first. It keeps what was taken.
type queue[T any] struct {
	all   []T
	taken int
}

// add puts something behind all others.
func (q *queue[T]) add(x T) {
	q.all = append(q.all, x)
}

// take takes the first one that waits; false if there is none.
func (q *queue[T]) take() (x T, there bool) {
	if q.taken == len(q.all) {
		return x, false
	}
	q.taken++
	return q.all[q.taken-1], true
}

// path is the stations from one to another one, numbered from 0 on in the order of the way, with the sections between them.
type path struct {
	numbers  []int // of the stations on the line
	runs     []int
	stations [][]api.Span // when there is room
	sections [][]api.Span // when nobody is there
}

// newPath returns the path of a train.
func newPath(l api.Line, k track, t api.Train) path {
	var p path
	step := cmp.Compare(t.To, t.From)
	for station := t.From; ; station += step {
		p.numbers = append(p.numbers, station)
		p.stations = append(p.stations, k.stations[station].free())
		if station == t.To {
			return p
		}
		between := min(station, station+step)
		p.runs = append(p.runs, l.Run[between])
		p.sections = append(p.sections, k.sections[between].free())
	}
}

// moment is a train at a station of a path, in a minute in which there is room.
type moment struct{ station, minute int }

// first returns the moments in which a train may be put on the path, in their order. Of each span of room it is the earliest
// one: the train may wait.
func (p path) first(ready int) []moment {
	var out []moment
	for _, s := range p.stations[0] {
		if s.High >= ready {
			out = append(out, moment{0, max(s.Low, ready)})
		}
	}
	return out
}

// next returns the moments in which a train may arrive at the next station, in their order. They are the earliest ones for each
// span of room there and each one of the section, for the same reason.
func (p path) next(at moment) []moment {
	var out []moment
	if at.station == len(p.runs) {
		return nil
	}
	run := p.runs[at.station]
	for _, free := range p.sections[at.station] {
		for _, room := range p.stations[at.station+1] {
			leave := max(at.minute, free.Low, room.Low-run)
			if leave <= min(p.mayStay(at), free.High-run+1, room.High-run) {
				out = append(out, moment{at.station + 1, leave + run})
			}
		}
	}
	return out
}

// mayStay returns until when there is room from a moment on.
func (p path) mayStay(at moment) int {
	spans := p.stations[at.station]
	return spans[slices.IndexFunc(spans, func(s api.Span) bool { return at.minute <= s.High })].High
}

// arrivals returns, of all moments that can come behind some, when a train arrives at the last station from there, at the
// earliest; of those from which it does not, never.
func (p path) arrivals(starts []moment) map[moment]int {
	last := map[moment]int{}
	var q queue[moment]
	wait := func(l []moment) {
		for _, at := range l {
			if _, seen := last[at]; !seen {
				last[at] = never
				q.add(at)
			}
		}
	}
	wait(starts)
	for at, there := q.take(); there; at, there = q.take() {
		wait(p.next(at))
	}
	// a station's moments stand in the queue behind those of the stations ahead
	for _, at := range slices.Backward(q.all) {
		if at.station == len(p.runs) {
			last[at] = at.minute
		}
		for _, then := range p.next(at) {
			last[at] = min(last[at], last[then])
		}
	}
	return last
}

// earliest returns the way that arrives earliest, of several the one with the least times; false if there is none.
func (p path) earliest(ready int) ([]api.Call, bool) {
	options := p.first(ready)
	arrivals := p.arrivals(options)
	best := never
	for _, at := range options {
		best = min(best, arrivals[at])
	}
	if best == never {
		return nil, false
	}
	var way []api.Call
	for len(options) > 0 {
		// the first one is the least, and leaves the station ahead at the least time
		at := options[slices.IndexFunc(options, func(m moment) bool { return arrivals[m] == best })]
		if at.station > 0 {
			way[at.station-1].Leave = at.minute - p.runs[at.station-1]
		}
		way = append(way, api.Call{Station: p.numbers[at.station], Arrive: at.minute, Leave: at.minute})
		options = p.next(at)
	}
	return way, true
}
