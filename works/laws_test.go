package works_test

import (
	"fmt"
	"math"
	"math/rand"
	"reflect"
	"slices"
	"strings"
	"sync"
	"testing"

	"underpin/api"
	"underpin/works"
)

// TestSerialKeeps: P8.4 and P0.5, what Serial returns keeps the job; no task could start earlier alone.
func TestSerialKeeps(t *testing.T) {
	r := rand.New(rand.NewSource(121))
	tried := 0
	for i := range 2000 {
		j := randomJob(r, 12)
		if i%2 == 0 {
			j = busyJob(r, 3+r.Intn(10))
		}
		starts := mustSerial(t, j, r.Perm(len(j.Tasks)))
		equal(t, said(j, starts), keepAll(j, starts), true)
		for task, start := range starts {
			for earlier := range start {
				tried++
				alone := slices.Clone(starts)
				alone[task] = earlier
				if keepAll(j, alone) {
					t.Fatal("earlier alone:", said(j, starts, alone))
				}
			}
		}
	}
	if tried < 10000 {
		t.Error("too few:", tried)
	}
}

// TestLargeSerial: P8.4, the largest jobs, and none is shorter than its floor.
func TestLargeSerial(t *testing.T) {
	r := rand.New(rand.NewSource(122))
	for i := range 10 {
		j := largest()
		for k := range j.Tasks {
			task := &j.Tasks[k]
			task.Takes = r.Intn(200)
			r.Shuffle(len(task.Needs), func(a, b int) { task.Needs[a], task.Needs[b] = task.Needs[b], task.Needs[a] })
			task.Needs = task.Needs[:min(len(task.Needs), r.Intn(2+i/2))]
			for u := range task.Uses {
				task.Uses[u].Many = 1 + r.Intn(api.MaxMany>>r.Intn(4))
			}
		}
		starts := mustSerial(t, j, r.Perm(len(j.Tasks)))
		equal(t, "it keeps the job", keepAll(j, starts), true)
		floor, e := works.Least(j)
		equal(t, "Least", e, api.OK)
		if floor.Minutes > endsAt(j, starts) {
			t.Fatal("shorter than its floor:", floor, endsAt(j, starts))
		}
	}
}

// TestNoneShorter: P8.4 and P0.5, no schedule that keeps the job is shorter than a floor that is proved, or than Best's.
func TestNoneShorter(t *testing.T) {
	r := rand.New(rand.NewSource(123))
	just, below := 0, 0
	for i := range 1500 {
		j := randomJob(r, 6)
		if i%2 == 0 {
			j = busyJob(r, 6)
		}
		_, best, e := works.Best(j)
		equal(t, "Best", e, api.OK)
		floor, e := works.Least(j)
		equal(t, "Least", e, api.OK)
		if floor.Minutes > best {
			t.Fatal("shorter than the floor:", said(j, floor, best))
		}
		if floor.Minutes == best {
			just++
		}
		for resource := range 4 {
			for minutes := range best + 3 {
				f := api.Floor{Minutes: minutes, Resource: resource}
				if proves, _ := works.Proves(j, f); proves && minutes > min(best, floor.Minutes) {
					t.Fatal("proves too much:", said(j, f, floor, best))
				}
			}
		}
		starts := mustSerial(t, j, r.Perm(len(j.Tasks)))
		for task := range starts {
			starts[task] += r.Intn(2) - r.Intn(2)
		}
		length, e := works.Length(j, starts)
		if e == api.OK {
			below++
			if length < best {
				t.Fatal("shorter than Best's:", said(j, starts, best))
			}
		}
	}
	if just < 200 || below < 100 {
		t.Error("too few:", just, below)
	}
}

// TestNoSchedule: P8.4, what proves more minutes than there are proves that there is no schedule.
func TestNoSchedule(t *testing.T) {
	r := rand.New(rand.NewSource(124))
	none := 0
	for range 400 {
		j := delayed(r, busyJob(r, 1+r.Intn(5)))
		if r.Intn(3) == 0 {
			j = stretched(r, j)
		}
		floor, e := works.Least(j)
		equal(t, "Least", e, api.OK)
		_, _, e = works.Best(j)
		if floor.Minutes > api.MaxTime {
			none++
			equal(t, said(j, floor), e, api.ErrScope)
		}
	}
	if none < 20 {
		t.Error("too few:", none)
	}
}

// TestTimetable: P8.6 and P0.5, a timetable stays free with what Insert returns, and no way that leaves it free arrives earlier.
func TestTimetable(t *testing.T) {
	r := rand.New(rand.NewSource(125))
	tried := 0
	for range 300 {
		l := randomLine(r, 5)
		table := randomTable(r, l, 10, 0)
		for range 6 {
			train := api.Train{From: r.Intn(len(l.Room)), To: r.Intn(len(l.Room)), Ready: r.Intn(12)}
			way, e := works.Insert(l, table, train)
			if e == api.ErrScope {
				continue
			}
			more := append(slices.Clip(table), way)
			equal(t, said(l, table, way), []any{e, free(l, more), works.CheckWay(l, way)}, []any{api.OK, true, api.OK})
			last := way[len(way)-1]
			equal(t, said(way), []int{way[0].Station, last.Station, last.Leave}, []int{train.From, train.To, last.Arrive})
			for range 30 {
				other := randomWay(r, l, train.Ready)
				end := other[len(other)-1]
				tried++
				if other[0].Station == train.From && end.Station == train.To && end.Arrive < last.Arrive && free(l, append(slices.Clip(table), other)) {
					t.Fatal("earlier:", said(l, table, way, other))
				}
			}
			table = more
		}
	}
	if tried < 10000 {
		t.Error("too few:", tried)
	}
}

// call is what functions are called with.
type call struct {
	j                    api.Job
	starts, order        []int
	floor                api.Floor
	now, resource, until int
	l                    api.Line
	table                [][]api.Call
	t                    api.Train
	air                  api.AirTable
	dives                []api.Dive
	worker               string
	pressure, minutes    int
}

// jobResults calls all functions of jobs, fails if one of them has a result beside an error, and returns what they return.
func (c call) jobResults(keep func(what string, e api.Errno, l ...any)) {
	keep("Check", api.OK, works.Check(c.j))
	order, e := works.Order(c.j)
	keep("Order", e, order)
	keeps, e := works.Keeps(c.j, c.starts)
	keep("Keeps", e, keeps)
	length, e := works.Length(c.j, c.starts)
	keep("Length", e, length)
	starts, e := works.Serial(c.j, c.order)
	keep("Serial", e, starts)
	best, length, e := works.Best(c.j)
	keep("Best", e, best, length)
	floor, e := works.Least(c.j)
	keep("Least", e, floor)
	proves, e := works.Proves(c.j, c.floor)
	keep("Proves", e, proves)
	job, again, e := works.Fail(c.j, c.starts, c.now, c.resource, c.until)
	keep("Fail", e, job, again)
}

// results calls all functions.
func (c call) results(t testing.TB) []any {
	t.Helper()
	var all []any
	keep := func(what string, e api.Errno, l ...any) {
		t.Helper()
		alone(t, what, e, l...)
		all = append(all, append(l, e)...)
	}
	c.jobResults(keep)
	keep("CheckLine", api.OK, works.CheckLine(c.l))
	for _, way := range c.table {
		keep("CheckWay", api.OK, works.CheckWay(c.l, way))
	}
	isFree, e := works.Free(c.l, c.table)
	keep("Free", e, isFree)
	way, e := works.Insert(c.l, c.table, c.t)
	keep("Insert", e, way)
	keep("CheckTable", api.OK, works.CheckTable(c.air))
	out, e := works.WayOut(c.air, c.pressure, c.minutes)
	keep("WayOut", e, out)
	faults, e := works.Faults(c.air, c.dives)
	keep("Faults", e, faults)
	next, e := works.Next(c.air, c.dives, c.worker, c.pressure, c.minutes, c.now)
	keep("Next", e, next)
	return all
}

// randomCall makes arguments without errors.
func randomCall(r *rand.Rand) call {
	c := call{j: busyJob(r, 1+r.Intn(6)), now: r.Intn(12), resource: r.Intn(2), worker: "ann", pressure: 10, minutes: 1 + r.Intn(50)}
	if r.Intn(3) == 0 {
		c.j = randomJob(r, 7)
	}
	c.order = r.Perm(len(c.j.Tasks))
	starts := map[int]int{}
	place(c.j, starts, c.order, 0)
	c.starts, c.until = listOf(starts, len(c.j.Tasks)), c.now+r.Intn(5)
	c.floor = api.Floor{Minutes: r.Intn(12), Resource: r.Intn(2)}
	if r.Intn(2) == 0 {
		c.floor.Chain = []int{r.Intn(3)}
	}
	c.l = randomLine(r, 4)
	c.table = randomTable(r, c.l, 10, 0)
	c.t = api.Train{From: r.Intn(len(c.l.Room)), To: r.Intn(len(c.l.Room)), Ready: r.Intn(10)}
	c.air = randomAirTable(r)
	c.dives = withoutFaults(c.air, randomDives(r, c.air, 8))
	return c
}

// TestArgumentsAndTwins: R4 and R10, no argument changes, and equal calls return equal results.
func TestArgumentsAndTwins(t *testing.T) {
	r := rand.New(rand.NewSource(126))
	for range 500 {
		c := randomCall(r)
		before := fmt.Sprintf("%#v", c)
		first := said(c.results(t))
		equal(t, "arguments", fmt.Sprintf("%#v", c), before)
		equal(t, "twins", said(c.results(t)), first)
	}
}

// TestRoomBehind: R4, the room behind the lists of arguments is not written to.
func TestRoomBehind(t *testing.T) {
	r := rand.New(rand.NewSource(127))
	for range 200 {
		c := randomCall(r)
		for i := range c.j.Resources {
			off := &c.j.Resources[i].Off
			*off = append(*off, api.Span{Low: 77, High: 78}, api.Span{Low: 99, High: 99})[:len(*off)]
		}
		c.dives = append(c.dives, api.Dive{Worker: "behind"})[:len(c.dives)]
		c.table = append(c.table, []api.Call{{Station: 77}})[:len(c.table)]
		c.results(t)
		for _, res := range c.j.Resources {
			equal(t, "spans", res.Off[:len(res.Off)+2][len(res.Off):], []api.Span{{Low: 77, High: 78}, {Low: 99, High: 99}})
		}
		equal(t, "stays", c.dives[:len(c.dives)+1][len(c.dives)].Worker, "behind")
		equal(t, "ways", c.table[:len(c.table)+1][len(c.table)], []api.Call{{Station: 77}})
	}
}

// TestManyAtOnce: R10, calls at the same time do not influence one another.
func TestManyAtOnce(t *testing.T) {
	c := randomCall(rand.New(rand.NewSource(128)))
	want := said(c.results(t))
	var all sync.WaitGroup
	got := make([]string, 8)
	for i := range got {
		all.Go(func() { got[i] = said(c.results(t)) })
	}
	all.Wait()
	for _, s := range got {
		equal(t, "at once", s, want)
	}
}

// where is where a list lies in memory.
type where struct{ from, to uintptr }

// wheres returns where all lists in a value lie, with the room behind them.
func wheres(v reflect.Value) []where {
	var l []where
	switch v.Kind() {
	case reflect.Interface:
		if !v.IsNil() {
			l = wheres(v.Elem())
		}
	case reflect.Struct:
		for i := range v.NumField() {
			l = append(l, wheres(v.Field(i))...)
		}
	case reflect.Slice:
		if size := uintptr(v.Cap()) * v.Type().Elem().Size(); size > 0 {
			l = append(l, where{v.Pointer(), v.Pointer() + size})
		}
		for i := range v.Len() {
			l = append(l, wheres(v.Index(i))...)
		}
	}
	return l
}

// TestMemory: R4, results share no memory with arguments or with each other.
func TestMemory(t *testing.T) {
	r := rand.New(rand.NewSource(129))
	jobs := 0
	for range 200 {
		c := randomCall(r)
		results := c.results(t)
		l := wheres(reflect.ValueOf([]any{c.j, c.starts, c.order, c.floor, c.l, c.table, c.air, c.dives, results}))
		slices.SortFunc(l, func(a, b where) int { return int(int64(a.from) - int64(b.from)) })
		for i := 1; i < len(l); i++ {
			if l[i].from < l[i-1].to {
				t.Fatal("shared memory")
			}
		}
		for _, x := range results {
			if j, is := x.(api.Job); is && len(j.Tasks) > 0 {
				jobs++
			}
		}
	}
	if jobs < 50 {
		t.Error("too few:", jobs)
	}
}

// TestNilAndEmpty: R3, nil and empty lists are the same.
func TestNilAndEmpty(t *testing.T) {
	var filled, none call
	filled.j = api.Job{Tasks: []api.Task{}, Resources: []api.Resource{}}
	filled.starts, filled.order, filled.floor.Chain = []int{}, []int{}, []int{}
	filled.l, filled.table = api.Line{Run: []int{}, Room: []int{}}, [][]api.Call{}
	filled.air, filled.dives = api.AirTable{Rows: []api.AirRow{}}, []api.Dive{}
	equal(t, "nothing", said(filled.results(t)), said(none.results(t)))
	none.j = api.Job{Tasks: []api.Task{{Name: "a", Takes: 3}, {Name: "b"}}, Resources: []api.Resource{{Name: "r", Many: 1}}}
	none.l, none.worker, none.minutes = api.Line{Room: []int{1}}, "ann", 5
	none.starts, none.order = []int{0, 0}, []int{1, 0}
	none.air.Rows = []api.AirRow{{Minutes: 9}}
	filled = none
	filled.j = api.Job{Tasks: []api.Task{{Name: "a", Takes: 3, Needs: []int{}, Uses: []api.Use{}}, {Name: "b"}}, Resources: []api.Resource{{Name: "r", Many: 1, Off: []api.Span{}}}}
	filled.l.Run, filled.table, filled.dives, filled.floor.Chain = []int{}, [][]api.Call{}, []api.Dive{}, []int{}
	equal(t, "hardly anything", said(filled.results(t)), said(none.results(t)))
	equal(t, "a way without calls", works.CheckWay(none.l, []api.Call{}), works.CheckWay(none.l, nil))
}

// junk makes arguments of any form, most of them close to good ones.
type junk struct{ *rand.Rand }

func (j junk) text() string {
	l := []string{"", "a", "A", "-", "\x00\xff", "é", " ", "t0", "r", "ann", strings.Repeat("a", api.MaxName), strings.Repeat("a", api.MaxName+1)}
	return l[j.Intn(len(l))]
}

func (j junk) number() int {
	if j.Intn(2) == 0 {
		return j.Intn(12) - 1
	}
	l := []int{math.MinInt, math.MaxInt, 1 << 32, -1 << 31, api.MaxMany, api.MaxMany + 1, api.MaxRun, api.MaxRun + 1, api.MaxTime - 1, api.MaxTime, api.MaxTime + 1}
	return l[j.Intn(len(l))]
}

func (j junk) numbers() []int {
	var l []int
	for range j.Intn(5) {
		l = append(l, j.number())
	}
	return l
}

// spoilJob changes something of a job.
func (j junk) spoilJob(c *call) {
	c.j = copied(c.j)
	if len(c.j.Tasks) == 0 || len(c.j.Resources) == 0 {
		return
	}
	t, r := &c.j.Tasks[j.Intn(len(c.j.Tasks))], &c.j.Resources[j.Intn(len(c.j.Resources))]
	switch j.Intn(8) {
	case 0:
		t.Name, r.Name = j.text(), "r9"
	case 1:
		r.Name = j.text()
	case 2:
		r.Many = j.number()
	case 3:
		r.Off = append(r.Off, api.Span{Low: j.number(), High: j.number()})
	case 4:
		t.Takes = j.number()
	case 5:
		t.Needs = j.numbers()
	case 6:
		t.Uses = append(t.Uses, api.Use{Resource: j.number(), Many: j.number()})
	default:
		c.starts, c.order = append(slices.Clone(c.starts[1:]), j.number()), j.numbers()
	}
}

// spoil changes something of a call.
func (j junk) spoil(c *call) {
	switch j.Intn(9) {
	case 0:
		c.now, c.resource, c.until = j.number(), j.number(), j.number()
	case 1:
		c.floor = api.Floor{Minutes: j.number(), Chain: j.numbers(), Resource: j.number()}
	case 2:
		c.l.Run, c.l.Room = append(slices.Clone(c.l.Run), j.number()), append(slices.Clone(c.l.Room), j.number())
	case 3:
		c.table = append(slices.Clone(c.table), []api.Call{{Station: j.number(), Arrive: j.number(), Leave: j.number()}})
	case 4:
		c.t = api.Train{From: j.number(), To: j.number(), Ready: j.number()}
	case 5:
		c.air.Rows = append(slices.Clone(c.air.Rows), api.AirRow{Pressure: j.number(), Minutes: j.number(), Out: j.number()})
		c.air.Rest, c.air.Day = j.number(), j.number()
	case 6:
		c.dives = append(slices.Clone(c.dives), api.Dive{Worker: j.text(), Pressure: j.number(), In: j.number(), Leave: j.number(), Out: j.number()})
	case 7:
		c.worker, c.pressure, c.minutes = j.text(), j.number(), j.number()
	default:
		j.spoilJob(c)
	}
}

// TestAnything: P0.1, R2 and R8, whatever is given, each function ends, and has nothing beside an error.
func TestAnything(t *testing.T) {
	j := junk{rand.New(rand.NewSource(130))}
	right, wrong := 0, 0
	for range 5000 {
		c := randomCall(j.Rand)
		for range 1 + j.Intn(4) {
			j.spoil(&c)
			j.spoilJob(&c)
		}
		if works.Check(c.j) == api.OK {
			right++
		} else {
			wrong++
		}
		c.results(t)
	}
	if right < 500 || wrong < 500 {
		t.Error("too few:", right, wrong)
	}
	many := call{j: api.Job{Tasks: make([]api.Task, 100000), Resources: make([]api.Resource, 100000)}, starts: make([]int, 100000)}
	many.order, many.l, many.table = many.starts, api.Line{Run: many.starts, Room: many.starts}, make([][]api.Call, 3)
	many.air, many.dives = api.AirTable{Rows: make([]api.AirRow, 100000)}, make([]api.Dive, 100000)
	many.results(t)
	c := randomCall(j.Rand)
	many.j, many.l, many.air = c.j, c.l, c.air
	many.table = [][]api.Call{make([]api.Call, 100000)}
	many.floor.Minutes, many.floor.Chain = 1, many.starts
	many.results(t)
	for i := range many.j.Tasks {
		many.j.Tasks[i].Needs = slices.Repeat([]int{0, 1}, 50000)
		many.j.Tasks[i].Uses = make([]api.Use, 100000)
	}
	many.results(t)
}

// TestReadme: the example of the README.
func TestReadme(t *testing.T) {
	j := api.Job{
		Resources: []api.Resource{{Name: "rig", Many: 1, Off: []api.Span{{Low: 5, High: 6}}}},
		Tasks: []api.Task{
			{Name: "drill", Takes: 4, Uses: []api.Use{{Resource: 0, Many: 1}}},
			{Name: "blast", Takes: 1, Needs: []int{0}},
			{Name: "muck", Takes: 3, Needs: []int{1}, Uses: []api.Use{{Resource: 0, Many: 1}}},
		},
	}
	starts, e := works.Serial(j, []int{2, 0, 1})
	equal(t, "Serial", []any{starts, e}, []any{[]int{0, 4, 7}, api.OK})
	length, e := works.Length(j, starts)
	equal(t, "Length", []any{length, e}, []any{10, api.OK})
	floor, e := works.Least(j)
	equal(t, "Least", []any{floor, e}, []any{api.Floor{Minutes: 9, Resource: 0}, api.OK})
	proved, e := works.Proves(j, floor)
	equal(t, "Proves", []any{proved, e}, []any{true, api.OK})
	j, starts, e = works.Fail(j, starts, 2, 0, 3)
	equal(t, "Fail", []any{j.Resources[0].Off, starts, e}, []any{[]api.Span{{Low: 2, High: 3}, {Low: 5, High: 6}}, []int{7, 11, 12}, api.OK})

	l := api.Line{Run: []int{3}, Room: []int{1, 1}}
	table := [][]api.Call{{{Station: 0, Arrive: 0, Leave: 0}, {Station: 1, Arrive: 3, Leave: 5}}}
	way, e := works.Insert(l, table, api.Train{From: 1, To: 0, Ready: 0})
	equal(t, "Insert", []any{calls(way), e}, []any{"1:6-6 0:9-9 ", api.OK})
	isFree, e := works.Free(l, append(table, way))
	equal(t, "Free", []any{isFree, e}, []any{true, api.OK})

	air := api.AirTable{Rows: []api.AirRow{{Pressure: 100, Minutes: 60, Out: 10}}, Rest: 30, Day: 100}
	stays := []api.Dive{{Worker: "ann", Pressure: 100, In: 0, Leave: 50, Out: 60}}
	stay, e := works.Next(air, stays, "ann", 100, 60, 0)
	equal(t, "Next", []any{stay, e}, []any{api.Dive{Worker: "ann", Pressure: 100, In: 1390, Leave: 1450, Out: 1460}, api.OK})
	faults, e := works.Faults(air, append(stays, stay))
	equal(t, "Faults", []any{faults, e}, []any{[]api.AirFault{api.AfNone, api.AfNone}, api.OK})
}
