package works_test

import (
	"fmt"
	"math/rand"
	"reflect"
	"slices"
	"testing"

	"underpin/api"
	"underpin/works"
)

// equal fails unless both are equal (nil and empty lists are).
func equal(t testing.TB, what string, got, want any) {
	t.Helper()
	g, w := reflect.ValueOf(got), reflect.ValueOf(want)
	if g.Kind() == reflect.Slice && w.Kind() == reflect.Slice && g.Len() == 0 && w.Len() == 0 {
		return
	}
	if !reflect.DeepEqual(got, want) {
		t.Fatalf("%s: got %.3000s, want %.3000s", what, fmt.Sprint(got), fmt.Sprint(want))
	}
}

// said writes anything: nil and empty lists alike.
func said(l ...any) string {
	return fmt.Sprintf("%q", fmt.Sprintf("%v", l))
}

// alone fails if there is a result beside an error.
func alone(t testing.TB, what string, e api.Errno, results ...any) {
	t.Helper()
	for _, result := range results {
		if v := reflect.ValueOf(result); e != api.OK && !v.IsZero() && !(v.Kind() == reflect.Slice && v.Len() == 0) {
			t.Fatal(what, "has a result beside the error", e, result)
		}
	}
}

// all are the numbers from 0 to n - 1.
func all(n int) []int {
	var out []int
	for i := range n {
		out = append(out, i)
	}
	return out
}

// exampleJob is the job of the chapter.
func exampleJob() api.Job {
	return api.Job{
		Resources: []api.Resource{{Name: "rig", Many: 1, Off: []api.Span{{Low: 5, High: 6}}}},
		Tasks: []api.Task{
			{Name: "drill", Takes: 4, Uses: []api.Use{{Resource: 0, Many: 1}}},
			{Name: "blast", Takes: 1, Needs: []int{0}},
			{Name: "muck", Takes: 3, Needs: []int{1}, Uses: []api.Use{{Resource: 0, Many: 1}}},
		},
	}
}

// copied returns a job in memory of its own.
func copied(j api.Job) api.Job {
	out := api.Job{Tasks: slices.Clone(j.Tasks), Resources: slices.Clone(j.Resources)}
	for i := range out.Tasks {
		out.Tasks[i].Needs, out.Tasks[i].Uses = slices.Clone(out.Tasks[i].Needs), slices.Clone(out.Tasks[i].Uses)
	}
	for i := range out.Resources {
		out.Resources[i].Off = slices.Clone(out.Resources[i].Off)
	}
	return out
}

// isOff tells whether a resource is off in a minute.
func isOff(r api.Resource, minute int) bool {
	return slices.ContainsFunc(r.Off, func(s api.Span) bool { return minute >= s.Low && minute <= s.High })
}

// usedAt is how many pieces of a resource some tasks use in a minute.
func usedAt(j api.Job, starts map[int]int, resource, minute int) int {
	sum := 0
	for task, start := range starts {
		for _, u := range j.Tasks[task].Uses {
			if u.Resource == resource && minute >= start && minute < start+j.Tasks[task].Takes {
				sum += u.Many
			}
		}
	}
	return sum
}

// keep tells whether some tasks with their starts keep a job, as if there were no others: each minute in which one runs is
// looked at.
func keep(j api.Job, starts map[int]int) bool {
	for task, start := range starts {
		t := j.Tasks[task]
		if start < 0 || start > api.MaxTime || start+t.Takes > api.MaxTime {
			return false
		}
		for _, need := range t.Needs {
			if s, is := starts[need]; is && start < s+j.Tasks[need].Takes {
				return false
			}
		}
	}
	for task, start := range starts {
		for minute := start; minute < start+j.Tasks[task].Takes; minute++ {
			for _, u := range j.Tasks[task].Uses {
				r := j.Resources[u.Resource]
				if isOff(r, minute) || usedAt(j, starts, u.Resource, minute) > r.Many {
					return false
				}
			}
		}
	}
	return true
}

// keepAll does so with all tasks.
func keepAll(j api.Job, starts []int) bool {
	return keep(j, byTask(starts))
}

// byTask are the starts of a list.
func byTask(starts []int) map[int]int {
	out := map[int]int{}
	for task, start := range starts {
		out[task] = start
	}
	return out
}

// listOf is the list of starts of so many tasks.
func listOf(starts map[int]int, n int) []int {
	out := make([]int, n)
	for task, start := range starts {
		out[task] = start
	}
	return out
}

// endsAt is the greatest end of tasks.
func endsAt(j api.Job, starts []int) int {
	end := 0
	for task, start := range starts {
		end = max(end, start+j.Tasks[task].Takes)
	}
	return end
}

// place places tasks of an order behind others, by the chapter's words, from a minute on; false if one cannot be.
func place(j api.Job, starts map[int]int, order []int, from int) bool {
	for range order {
		next := slices.IndexFunc(order, func(task int) bool {
			_, placed := starts[task]
			return !placed && !slices.ContainsFunc(j.Tasks[task].Needs, func(need int) bool { _, is := starts[need]; return !is })
		})
		task := order[next]
		for starts[task] = from; beginsOff(j, task, starts[task]) || !keep(j, starts); starts[task]++ {
			if starts[task] > api.MaxTime {
				return false
			}
		}
	}
	return true
}

// beginsOff tells whether a task would begin while a resource that it uses is off, so that keep need not be asked.
func beginsOff(j api.Job, task, start int) bool {
	t := j.Tasks[task]
	return t.Takes > 0 && slices.ContainsFunc(t.Uses, func(u api.Use) bool { return isOff(j.Resources[u.Resource], start) })
}

// mustSerial returns what Serial says.
func mustSerial(t testing.TB, j api.Job, order []int) []int {
	t.Helper()
	starts, e := works.Serial(j, order)
	if e != api.OK {
		t.Fatal("Serial:", e, said(j, order))
	}
	return starts
}

// randomSpans makes spans in the minutes below a last one.
func randomSpans(r *rand.Rand, most, last int) []api.Span {
	var out []api.Span
	from := r.Intn(3)
	for range r.Intn(most + 1) {
		low := from + r.Intn(4)
		high := low + r.Intn(3)
		if high >= last {
			break
		}
		out = append(out, api.Span{Low: low, High: high})
		from = high + 1
	}
	return out
}

// randomJob makes a small job of at most so many tasks. One of them needs others that stand anywhere.
func randomJob(r *rand.Rand, most int) api.Job {
	var j api.Job
	for i := range r.Intn(4) {
		j.Resources = append(j.Resources, api.Resource{Name: fmt.Sprintf("r%d", i), Many: r.Intn(4), Off: randomSpans(r, 3, 20)})
	}
	n := r.Intn(most + 1)
	rank := r.Perm(n)
	for i := range n {
		t := api.Task{Name: fmt.Sprintf("t%d", i), Takes: r.Intn(5)}
		for _, other := range r.Perm(n) {
			if rank[other] < rank[i] && r.Intn(3) == 0 {
				t.Needs = append(t.Needs, other)
			}
		}
		for _, resource := range r.Perm(len(j.Resources)) {
			if has := j.Resources[resource].Many; has > 0 && r.Intn(2) == 0 {
				t.Uses = append(t.Uses, api.Use{Resource: resource, Many: 1 + r.Intn(has)})
			}
		}
		j.Tasks = append(j.Tasks, t)
	}
	return j
}

// busyJob makes a small job of so many tasks, each of which waits for what others use.
func busyJob(r *rand.Rand, n int) api.Job {
	j := api.Job{Resources: []api.Resource{{Name: "r", Many: 2 + r.Intn(2), Off: randomSpans(r, 2, 12)}, {Name: "s", Many: 1 + r.Intn(2)}}}
	for i := range n {
		t := api.Task{Name: fmt.Sprintf("t%d", i), Takes: r.Intn(5), Uses: []api.Use{{Resource: 0, Many: 1 + r.Intn(j.Resources[0].Many)}}}
		if r.Intn(3) == 0 {
			t.Uses = append(t.Uses, api.Use{Resource: 1, Many: 1 + r.Intn(j.Resources[1].Many)})
		}
		for need := range i {
			if r.Intn(5) == 0 {
				t.Needs = append(t.Needs, need)
			}
		}
		j.Tasks = append(j.Tasks, t)
	}
	r.Shuffle(n, func(a, b int) { // needs may stand behind, too
		j.Tasks[a], j.Tasks[b] = j.Tasks[b], j.Tasks[a]
		for i := range j.Tasks {
			for k, need := range j.Tasks[i].Needs {
				switch need {
				case a:
					j.Tasks[i].Needs[k] = b
				case b:
					j.Tasks[i].Needs[k] = a
				}
			}
		}
	})
	return j
}

// delayed is a job whose resources are off up to close to the last time.
func delayed(r *rand.Rand, j api.Job) api.Job {
	j = copied(j)
	far := api.MaxTime - 4 - r.Intn(25)
	for i := range j.Resources {
		off := []api.Span{{Low: 0, High: far - 1 - r.Intn(3)}}
		for _, s := range j.Resources[i].Off {
			if s.High += far; s.High <= api.MaxTime {
				off = append(off, api.Span{Low: s.Low + far, High: s.High})
			}
		}
		j.Resources[i].Off = off
	}
	return j
}

// stretched is a job with one task that takes nearly all time.
func stretched(r *rand.Rand, j api.Job) api.Job {
	j = copied(j)
	if len(j.Tasks) > 0 {
		j.Tasks[r.Intn(len(j.Tasks))].Takes = api.MaxTime - r.Intn(12)
	}
	return j
}

// lineOf is a line with room for so many trains.
func lineOf(run []int, room ...int) api.Line {
	return api.Line{Run: run, Room: room}
}

// free tells whether a timetable is free: each minute of each train is looked at.
func free(l api.Line, table [][]api.Call) bool {
	type spot struct{ number, minute int }
	stations, sections := map[spot]int{}, map[spot]int{}
	for _, way := range table {
		for i, c := range way {
			for minute := c.Arrive; minute <= c.Leave; minute++ {
				s := spot{c.Station, minute}
				if stations[s]++; stations[s] > l.Room[c.Station] {
					return false
				}
			}
			if i == 0 {
				continue
			}
			for minute := way[i-1].Leave; minute < c.Arrive; minute++ {
				s := spot{min(c.Station, way[i-1].Station), minute}
				if sections[s]++; sections[s] > 1 {
					return false
				}
			}
		}
	}
	return true
}

// timesOf are the times of a way, call by call.
func timesOf(way []api.Call) []int {
	var out []int
	for _, c := range way {
		out = append(out, c.Arrive, c.Leave)
	}
	return out
}

// randomLine makes a line of at most so many sections.
func randomLine(r *rand.Rand, most int) api.Line {
	room := func() int { return []int{0, 1, 1, 1, 1, 1, 1, 2, 2, 2, 3}[r.Intn(11)] }
	l := api.Line{Room: []int{room()}}
	for range r.Intn(most + 1) {
		l.Run, l.Room = append(l.Run, 1+r.Intn(3)), append(l.Room, room())
	}
	return l
}

// randomWay makes a way that begins at a time or later.
func randomWay(r *rand.Rand, l api.Line, from int) []api.Call {
	at, to := r.Intn(len(l.Room)), r.Intn(len(l.Room))
	var way []api.Call
	for time := from + r.Intn(6); ; {
		c := api.Call{Station: at, Arrive: time, Leave: time + max(0, r.Intn(6)-2)}
		way = append(way, c)
		switch {
		case at < to:
			time = c.Leave + l.Run[at]
			at++
		case at > to:
			at--
			time = c.Leave + l.Run[at]
		default:
			return way
		}
	}
}

// randomTable makes a timetable that is free.
func randomTable(r *rand.Rand, l api.Line, tries, from int) [][]api.Call {
	var table [][]api.Call
	for range tries {
		if more := append(slices.Clip(table), randomWay(r, l, from+r.Intn(12))); free(l, more) {
			table = more
		}
	}
	return table
}

// exampleTable is the air table of the chapter.
func exampleTable() api.AirTable {
	return api.AirTable{Rows: []api.AirRow{{Pressure: 100, Minutes: 60, Out: 10}}, Rest: 30, Day: 100}
}

// dive is a stay of ann.
func dive(pressure, in, leave, out int) api.Dive {
	return api.Dive{Worker: "ann", Pressure: pressure, In: in, Leave: leave, Out: out}
}

// rowOf is the row that counts, or none.
func rowOf(t api.AirTable, pressure, minutes int) (api.AirRow, bool) {
	for _, row := range t.Rows {
		if pressure <= row.Pressure && minutes <= row.Minutes {
			return row, true
		}
	}
	return api.AirRow{}, false
}

// faultOf is the first rule that the last stay of a list breaks, by the chapter's words; each minute is looked at.
func faultOf(t api.AirTable, l []api.Dive) api.AirFault {
	d := l[len(l)-1]
	if d.In >= d.Leave || d.Leave > d.Out {
		return api.AfOrder
	}
	row, counts := rowOf(t, d.Pressure, d.Leave-d.In)
	if !counts {
		return api.AfTable
	}
	if d.Out-d.Leave < row.Out {
		return api.AfOut
	}
	sum := 0
	for i, other := range l {
		if other.Worker != d.Worker {
			continue
		}
		last := i < len(l)-1 && !slices.ContainsFunc(l[i+1:len(l)-1], func(x api.Dive) bool { return x.Worker == d.Worker })
		if last && d.In-other.Out < t.Rest {
			return api.AfRest
		}
		for minute := other.In; minute < other.Leave; minute++ {
			if minute >= d.Leave-1440 && minute < d.Leave {
				sum++
			}
		}
	}
	if sum > t.Day {
		return api.AfDay
	}
	return api.AfNone
}

// faultsOf is what faultOf says of each stay.
func faultsOf(t api.AirTable, l []api.Dive) []api.AirFault {
	var out []api.AirFault
	for i := range l {
		out = append(out, faultOf(t, l[:i+1]))
	}
	return out
}

// randomAirTable makes an air table.
func randomAirTable(r *rand.Rand) api.AirTable {
	t := api.AirTable{Rest: r.Intn(60), Day: 50 + r.Intn(300)}
	for range r.Intn(5) {
		t.Rows = append(t.Rows, api.AirRow{Pressure: r.Intn(4) * 10, Minutes: r.Intn(6) * 40, Out: r.Intn(40)})
	}
	return t
}

// randomDives makes stays of three workers, most of them without faults.
func randomDives(r *rand.Rand, t api.AirTable, most int) []api.Dive {
	var l []api.Dive
	in := r.Intn(100)
	for range r.Intn(most + 1) {
		d := api.Dive{Worker: []string{"ann", "bob", "cy"}[r.Intn(3)], Pressure: r.Intn(31), In: in, Leave: in + 1 + r.Intn(100)}
		row, _ := rowOf(t, d.Pressure, d.Leave-d.In)
		d.Out = d.Leave + row.Out + r.Intn(2)*r.Intn(20)
		switch r.Intn(12) {
		case 0:
			d.Leave = max(0, d.In-r.Intn(20))
		case 1:
			d.Out = max(0, d.Leave-r.Intn(20))
		case 2, 3:
			d.Out = d.Leave + r.Intn(row.Out+1)
		}
		l = append(l, d)
		in += r.Intn(2) * r.Intn(300)
	}
	return l
}
