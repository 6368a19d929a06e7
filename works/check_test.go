package works_test

import (
	"fmt"
	"math"
	"slices"
	"strings"
	"testing"

	"underpin/api"
	"underpin/works"
)

// wholeJob has all that a job may have.
func wholeJob() api.Job {
	return api.Job{
		Resources: []api.Resource{
			{Name: "rig", Many: 1, Off: []api.Span{{Low: 5, High: 6}, {Low: 9, High: 9}}},
			{Name: "gang-2", Many: 3, Off: []api.Span{{Low: 0, High: 1}, {Low: 2, High: 2}}},
		},
		Tasks: []api.Task{
			{Name: "drill", Takes: 4, Uses: []api.Use{{Resource: 0, Many: 1}}},
			{Name: "blast", Takes: 1, Needs: []int{0, 2}, Uses: []api.Use{{Resource: 1, Many: 3}, {Resource: 0, Many: 1}}},
			{Name: "wait", Needs: []int{0}},
		},
	}
}

// gang is the second resource of that job, blast its second task.
func gang(j *api.Job) *api.Resource { return &j.Resources[1] }
func blast(j *api.Job) *api.Task    { return &j.Tasks[1] }

// wrongJob is a change of that job with the error that it makes. Parts are in the order of Check.
type wrongJob struct {
	part, what string
	change     func(j *api.Job)
	want       api.Errno
}

// behind is a time that is none.
const behind = api.MaxTime + 1

// wrongResources are those of resources.
var wrongResources = []wrongJob{
	{"resources", "17 resources", func(j *api.Job) { j.Resources = make([]api.Resource, 17) }, api.ErrLimit},
	{"name", "no name", func(j *api.Job) { gang(j).Name = "" }, api.ErrName},
	{"name", "17 bytes", func(j *api.Job) { gang(j).Name = strings.Repeat("g", 17) }, api.ErrName},
	{"name", "a great letter", func(j *api.Job) { gang(j).Name = "gAng" }, api.ErrName},
	{"name", "a digit ahead", func(j *api.Job) { gang(j).Name = "1g" }, api.ErrName},
	{"name", "- ahead", func(j *api.Job) { gang(j).Name = "-g" }, api.ErrName},
	{"name", "any bytes", func(j *api.Job) { gang(j).Name = "g\x00\xff" }, api.ErrName},
	{"name", "behind z", func(j *api.Job) { gang(j).Name = "g{" }, api.ErrName},
	{"name", "ahead of a", func(j *api.Job) { gang(j).Name = "`g" }, api.ErrName},
	{"name", "behind 9", func(j *api.Job) { gang(j).Name = "g:" }, api.ErrName},
	{"name", "ahead of 0", func(j *api.Job) { gang(j).Name = "g/" }, api.ErrName},
	{"twice", "a name twice", func(j *api.Job) { gang(j).Name = "rig" }, api.ErrTwice},
	{"many", "Many below 0", func(j *api.Job) { gang(j).Many = -1 }, api.ErrArg},
	{"many", "Many too great", func(j *api.Job) { gang(j).Many = 1001 }, api.ErrArg},
	{"many", "Many as great as can be", func(j *api.Job) { gang(j).Many = math.MaxInt }, api.ErrArg},
	{"spans", "17 spans", func(j *api.Job) { gang(j).Off = make([]api.Span, 17) }, api.ErrLimit},
	{"span", "Low below 0", func(j *api.Job) { gang(j).Off[0].Low = -1 }, api.ErrArg},
	{"span", "High behind all times", func(j *api.Job) { gang(j).Off[1].High = behind }, api.ErrArg},
	{"span", "Low behind all times", func(j *api.Job) { gang(j).Off[1] = api.Span{Low: behind, High: behind} }, api.ErrArg},
	{"span", "High below 0", func(j *api.Job) { gang(j).Off[0] = api.Span{Low: -2, High: -1} }, api.ErrArg},
	{"span", "Low above High", func(j *api.Job) { gang(j).Off[1] = api.Span{Low: 5, High: 4} }, api.ErrArg},
	{"span", "Low at the High ahead", func(j *api.Job) { gang(j).Off[1].Low = 1 }, api.ErrArg},
	{"span", "Low below the High ahead", func(j *api.Job) { gang(j).Off[1].Low = 0 }, api.ErrArg},
	{"span", "the same span", func(j *api.Job) { gang(j).Off[1] = gang(j).Off[0] }, api.ErrArg},
}

// wrongTasks are those of tasks.
var wrongTasks = []wrongJob{
	{"tasks", "65 tasks", func(j *api.Job) { j.Tasks = make([]api.Task, 65) }, api.ErrLimit},
	{"task name", "no name", func(j *api.Job) { blast(j).Name = "" }, api.ErrName},
	{"task name", "17 bytes", func(j *api.Job) { blast(j).Name = strings.Repeat("b", 17) }, api.ErrName},
	{"task twice", "a name twice", func(j *api.Job) { blast(j).Name = "drill" }, api.ErrTwice},
	{"takes", "Takes below 0", func(j *api.Job) { blast(j).Takes = -1 }, api.ErrArg},
	{"takes", "Takes behind all times", func(j *api.Job) { blast(j).Takes = behind }, api.ErrArg},
	{"takes", "Takes as little as can be", func(j *api.Job) { blast(j).Takes = math.MinInt }, api.ErrArg},
	{"need", "no such task", func(j *api.Job) { blast(j).Needs = []int{3} }, api.ErrNone},
	{"need", "a task below 0", func(j *api.Job) { blast(j).Needs = []int{-1, -1} }, api.ErrNone},
	{"need", "a task far off", func(j *api.Job) { blast(j).Needs = []int{0, math.MaxInt} }, api.ErrNone},
	{"need", "a need twice", func(j *api.Job) { blast(j).Needs = []int{2, 0, 2, 9} }, api.ErrTwice},
	{"use", "no such resource", func(j *api.Job) { blast(j).Uses[1].Resource = 2 }, api.ErrNone},
	{"use", "a resource below 0", func(j *api.Job) { blast(j).Uses = []api.Use{{Resource: -1, Many: -1}} }, api.ErrNone},
	{"use", "a resource far off", func(j *api.Job) { blast(j).Uses[1].Resource = math.MinInt }, api.ErrNone},
	{"use", "a resource twice", func(j *api.Job) { blast(j).Uses[1] = api.Use{Resource: 1, Many: -1} }, api.ErrTwice},
	{"use", "no piece", func(j *api.Job) { blast(j).Uses[1].Many = 0 }, api.ErrArg},
	{"use", "less than no piece", func(j *api.Job) { blast(j).Uses[0].Many = -1 }, api.ErrArg},
	{"use", "1001 pieces", func(j *api.Job) { blast(j).Uses[0].Many = 1001 }, api.ErrArg},
	{"use", "a piece more than there are", func(j *api.Job) { blast(j).Uses[0].Many = 4 }, api.ErrScope},
	{"use", "1000 pieces", func(j *api.Job) { blast(j).Uses[0].Many = 1000 }, api.ErrScope},
	{"loop", "a task that needs itself", func(j *api.Job) { j.Tasks[2].Needs = []int{0, 2} }, api.ErrLoop},
	{"loop", "two that need one another", func(j *api.Job) { j.Tasks[0].Needs = []int{2} }, api.ErrLoop},
	{"loop", "three in a circle", func(j *api.Job) { j.Tasks[0].Needs, j.Tasks[2].Needs = []int{1}, []int{0} }, api.ErrLoop},
}

// wrongJobs are all of them.
func wrongJobs() []wrongJob {
	return slices.Concat(wrongResources, wrongTasks)
}

// jobErrors calls all functions that check a job, fails if there is a result beside an error, and returns the errors. Whatever
// they check behind the job is wrong.
func jobErrors(t *testing.T, j api.Job) []api.Errno {
	t.Helper()
	wrong := make([]int, 70)
	order, a := works.Order(j)
	alone(t, "Order", a, order)
	keeps, b := works.Keeps(j, wrong)
	alone(t, "Keeps", b, keeps)
	length, c := works.Length(j, wrong)
	alone(t, "Length", c, length)
	starts, d := works.Serial(j, wrong)
	alone(t, "Serial", d, starts)
	best, length, e := works.Best(j)
	alone(t, "Best", e, best, length)
	floor, f := works.Least(j)
	alone(t, "Least", f, floor)
	proves, g := works.Proves(j, api.Floor{Minutes: -1})
	alone(t, "Proves", g, proves)
	job, again, h := works.Fail(j, wrong, -1, -1, -1)
	alone(t, "Fail", h, job, again)
	return []api.Errno{works.Check(j), a, b, c, d, e, f, g, h}
}

// TestCheck: P8.1, each function returns the error of its job, ahead of all others.
func TestCheck(t *testing.T) {
	equal(t, "the example", works.Check(exampleJob()), api.OK)
	equal(t, "the whole one", works.Check(wholeJob()), api.OK)
	equal(t, "nothing", works.Check(api.Job{}), api.OK)
	for _, c := range wrongJobs() {
		j := wholeJob()
		c.change(&j)
		equal(t, c.part+": "+c.what, jobErrors(t, j), slices.Repeat([]api.Errno{c.want}, 9))
	}
}

// TestCheckOrder: P8.1 and R1, of the errors in two parts the first one counts.
func TestCheckOrder(t *testing.T) {
	all := wrongJobs()
	for i, first := range all {
		for _, then := range all[i+1:] {
			if first.part == then.part {
				continue
			}
			j := wholeJob()
			then.change(&j)
			if first.change(&j); first.want == api.ErrLimit && then.part == "loop" {
				continue // without these tasks there is no circle left to make
			}
			equal(t, first.what+" ahead of "+then.what, works.Check(j), first.want)
		}
	}
}

// TestCheckElements: R1, of the errors in two elements that of the first one counts.
func TestCheckElements(t *testing.T) {
	j := wholeJob()
	j.Resources[0].Off[1].High, gang(&j).Name = behind, ""
	equal(t, "resources", works.Check(j), api.ErrArg)
	j = wholeJob()
	j.Tasks[0].Uses[0].Many, blast(&j).Name = 2, ""
	equal(t, "tasks", works.Check(j), api.ErrScope)
	j = wholeJob()
	blast(&j).Needs = []int{0, 0, -1}
	equal(t, "needs", works.Check(j), api.ErrTwice)
	j = wholeJob()
	blast(&j).Uses[0].Many, blast(&j).Uses[1].Resource = 4, 9
	equal(t, "uses", works.Check(j), api.ErrScope)
	j = wholeJob()
	j.Tasks[0].Needs, blast(&j).Name = []int{0}, "drill"
	equal(t, "a task ahead of the circle", works.Check(j), api.ErrTwice)
}

// largest is a job with as much as there may be of everything.
func largest() api.Job {
	name := func(i int) string { return fmt.Sprintf("z%s%02d", strings.Repeat("-", api.MaxName-3), i) }
	var j api.Job
	for i := range api.MaxResources {
		r := api.Resource{Name: name(i), Many: api.MaxMany}
		for k := range api.MaxOffs {
			r.Off = append(r.Off, api.Span{Low: 2*k + i%2*k, High: 2*k + i%2*k})
		}
		r.Off[15].High = 40 + 5*i
		j.Resources = append(j.Resources, r)
	}
	for i := range api.MaxTasks {
		t := api.Task{Name: name(i), Takes: i}
		for k := range i {
			t.Needs = append(t.Needs, k)
		}
		for k := range api.MaxResources {
			t.Uses = append(t.Uses, api.Use{Resource: k, Many: api.MaxMany - k})
		}
		j.Tasks = append(j.Tasks, t)
	}
	return j
}

// TestCheckLimits: P8.1 and R7, limits are allowed themselves; a task may have a resource's name, and spans may touch.
func TestCheckLimits(t *testing.T) {
	equal(t, "the largest job", works.Check(largest()), api.OK)
	j := wholeJob()
	gang(&j).Off = []api.Span{{Low: 0, High: 0}, {Low: 1, High: 1}, {Low: 2, High: api.MaxTime}}
	blast(&j).Name, blast(&j).Takes = "rig", api.MaxTime
	equal(t, "the same name for different things", works.Check(j), api.OK)
	gang(&j).Off = []api.Span{{Low: api.MaxTime, High: api.MaxTime}}
	gang(&j).Many, blast(&j).Uses = 0, nil
	equal(t, "no piece of something", works.Check(j), api.OK)
}

// wrongLines are lines with their errors.
var wrongLines = []struct {
	what string
	l    api.Line
	want api.Errno
}{
	{"17 stations", lineOf(nil, make([]int, 17)...), api.ErrLimit},
	{"17 stations that are wrong", lineOf([]int{0}, slices.Repeat([]int{-1}, 17)...), api.ErrLimit},
	{"no station", lineOf(nil), api.ErrArg},
	{"no station but a section", lineOf([]int{3}), api.ErrArg},
	{"as many sections", lineOf([]int{3, 3}, 1, 1), api.ErrArg},
	{"too few sections", lineOf(nil, 1, 1), api.ErrArg},
	{"far too many sections", lineOf(slices.Repeat([]int{3}, 100), 1, 1), api.ErrArg},
	{"Room below 0", lineOf([]int{3}, 1, -1), api.ErrArg},
	{"Room too great", lineOf([]int{3}, 1001, 1), api.ErrArg},
	{"Run 0", lineOf([]int{0}, 1, 1), api.ErrArg},
	{"Run below 0", lineOf([]int{1, -1}, 1, 1, 1), api.ErrArg},
	{"Run too great", lineOf([]int{1001}, 1, 1), api.ErrArg},
	{"Run as great as can be", lineOf([]int{math.MaxInt}, 1, 1), api.ErrArg},
}

// TestCheckLine: P8.2, each function returns the error of its line, ahead of all others.
func TestCheckLine(t *testing.T) {
	for _, c := range wrongLines {
		isFree, e := works.Free(c.l, make([][]api.Call, 33))
		alone(t, "Free", e, isFree)
		way, f := works.Insert(c.l, make([][]api.Call, 33), api.Train{From: -1})
		alone(t, "Insert", f, way)
		equal(t, c.what, []api.Errno{works.CheckLine(c.l), works.CheckWay(c.l, nil), e, f}, slices.Repeat([]api.Errno{c.want}, 4))
	}
	for _, l := range []api.Line{lineOf(nil, 0), lineOf([]int{1}, 0, 1000), lineOf([]int{1000}, 1, 1), lineOf(slices.Repeat([]int{1}, 15), slices.Repeat([]int{1000}, 16)...)} {
		equal(t, said(l), works.CheckLine(l), api.OK)
	}
}

// threeStops is a line of three stations.
func threeStops() api.Line {
	return lineOf([]int{3, 5}, 1, 2, 1)
}

// wrongWays are ways on that line with their errors.
var wrongWays = []struct {
	what string
	way  []api.Call
	want api.Errno
}{
	{"no call", nil, api.ErrArg},
	{"no station", []api.Call{{Station: 3, Arrive: -1}}, api.ErrNone},
	{"a station below 0", []api.Call{{Station: -1, Arrive: -1}}, api.ErrNone},
	{"a station far off", []api.Call{{Station: math.MaxInt}}, api.ErrNone},
	{"Arrive below 0", []api.Call{{Arrive: -1}}, api.ErrArg},
	{"Leave behind all times", []api.Call{{Leave: behind}}, api.ErrArg},
	{"Arrive behind all times", []api.Call{{Arrive: behind, Leave: behind}}, api.ErrArg},
	{"Leave below Arrive", []api.Call{{Arrive: 5, Leave: 4}}, api.ErrArg},
	{"Leave below 0", []api.Call{{Arrive: 0, Leave: math.MinInt}}, api.ErrArg},
	{"the same station", []api.Call{{Leave: 1}, {Station: 0, Arrive: 4, Leave: 4}}, api.ErrState},
	{"a station farther", []api.Call{{Leave: 1}, {Station: 2, Arrive: 9, Leave: 9}}, api.ErrState},
	{"too early", []api.Call{{Leave: 1}, {Station: 1, Arrive: 3, Leave: 4}}, api.ErrState},
	{"too late", []api.Call{{Leave: 1}, {Station: 1, Arrive: 5, Leave: 5}}, api.ErrState},
	{"another section's minutes", []api.Call{{Leave: 1}, {Station: 1, Arrive: 4, Leave: 6}, {Station: 2, Arrive: 9, Leave: 9}}, api.ErrState},
	{"back", []api.Call{{Leave: 1}, {Station: 1, Arrive: 4, Leave: 4}, {Station: 0, Arrive: 7, Leave: 7}}, api.ErrState},
	{"forth", []api.Call{{Station: 2, Leave: 1}, {Station: 1, Arrive: 6, Leave: 6}, {Station: 2, Arrive: 11, Leave: 11}}, api.ErrState},
	{"too late, and Leave below Arrive", []api.Call{{Leave: 1}, {Station: 1, Arrive: 5, Leave: 4}}, api.ErrArg},
	{"too late, and no station behind it", []api.Call{{Leave: 1}, {Station: 1, Arrive: 5, Leave: 5}, {Station: 9}}, api.ErrState},
	{"no station, and too late behind it", []api.Call{{Station: 3}, {Station: 1, Arrive: 5, Leave: 5}}, api.ErrNone},
}

// TestCheckWay: P8.2, the errors of ways, and of timetables.
func TestCheckWay(t *testing.T) {
	l := threeStops()
	long := []api.Call{{Arrive: 2, Leave: 4}, {Station: 1, Arrive: 7, Leave: 7}, {Station: 2, Arrive: 12, Leave: 90}}
	back := []api.Call{{Station: 2, Arrive: 2, Leave: 4}, {Station: 1, Arrive: 9, Leave: 10}, {Station: 0, Arrive: 13, Leave: 13}}
	for _, way := range [][]api.Call{long, back, long[:1], {{Station: 2, Arrive: api.MaxTime, Leave: api.MaxTime}}, {{Arrive: 0, Leave: api.MaxTime}}} {
		equal(t, said(way), works.CheckWay(l, way), api.OK)
	}
	for _, c := range wrongWays {
		table := [][]api.Call{long, c.way, {{Station: 9}}, nil}
		isFree, e := works.Free(l, table)
		alone(t, "Free", e, isFree)
		way, f := works.Insert(l, table, api.Train{From: -1})
		alone(t, "Insert", f, way)
		equal(t, c.what, []api.Errno{works.CheckWay(l, c.way), e, f}, slices.Repeat([]api.Errno{c.want}, 3))
	}
	many := slices.Repeat([][]api.Call{{{Station: 9}}}, 33)
	_, e := works.Free(l, many)
	_, f := works.Insert(l, many, api.Train{})
	equal(t, "33 ways", []api.Errno{e, f}, []api.Errno{api.ErrLimit, api.ErrLimit})
	isFree, e := works.Free(l, slices.Repeat([][]api.Call{long}, 32))
	equal(t, "32 ways", []any{isFree, e}, []any{false, api.OK})
}

// TestCheckInsert: P8.2, the errors of Insert behind those of the timetable, in their order.
func TestCheckInsert(t *testing.T) {
	l := threeStops()
	var full, two [][]api.Call
	for i := range 32 {
		full = append(full, []api.Call{{Station: 1, Arrive: i, Leave: i}})
	}
	two = [][]api.Call{{{Arrive: 2, Leave: 4}}, {{Arrive: 4, Leave: 5}}}
	for _, c := range []struct {
		what  string
		l     api.Line
		table [][]api.Call
		t     api.Train
		want  api.Errno
	}{
		{"not free", l, two, api.Train{From: -1}, api.ErrState},
		{"32 ways that are not free", l, slices.Repeat(full[:1], 32), api.Train{From: -1}, api.ErrState},
		{"no station From", l, full, api.Train{From: 3, Ready: -1}, api.ErrNone},
		{"From below 0", l, full, api.Train{From: -1, Ready: -1}, api.ErrNone},
		{"no station To", l, full, api.Train{To: math.MaxInt, Ready: -1}, api.ErrNone},
		{"To below 0", l, full, api.Train{To: -1, Ready: -1}, api.ErrNone},
		{"Ready below 0", l, full, api.Train{Ready: -1}, api.ErrArg},
		{"Ready behind all times", l, full, api.Train{Ready: behind}, api.ErrArg},
		{"32 ways", l, full, api.Train{Ready: api.MaxTime, To: 1}, api.ErrLimit},
		{"31 ways", l, full[:31], api.Train{}, api.OK},
		{"no time left", l, full[:31], api.Train{Ready: api.MaxTime - 2, To: 1}, api.ErrScope},
		{"time left", l, full[:31], api.Train{Ready: api.MaxTime - 3, To: 1}, api.OK},
		{"no room at the end", lineOf([]int{3}, 1, 0), nil, api.Train{To: 1}, api.ErrScope},
		{"no room at the begin", lineOf([]int{3}, 0, 1), nil, api.Train{To: 1}, api.ErrScope},
		{"no room", lineOf(nil, 0), nil, api.Train{}, api.ErrScope},
	} {
		way, e := works.Insert(c.l, c.table, c.t)
		alone(t, c.what, e, way)
		equal(t, c.what, e, c.want)
	}
}

// wrongTables are air tables with their errors.
var wrongTables = []struct {
	what string
	t    api.AirTable
	want api.Errno
}{
	{"65 rows", api.AirTable{Rows: make([]api.AirRow, 65)}, api.ErrLimit},
	{"65 rows that are wrong", api.AirTable{Rows: slices.Repeat([]api.AirRow{{Out: -1}}, 65), Rest: -1}, api.ErrLimit},
	{"Pressure below 0", api.AirTable{Rows: []api.AirRow{{}, {Pressure: -1}}}, api.ErrArg},
	{"Pressure too great", api.AirTable{Rows: []api.AirRow{{Pressure: behind}}}, api.ErrArg},
	{"Minutes below 0", api.AirTable{Rows: []api.AirRow{{Minutes: -1}}}, api.ErrArg},
	{"Minutes too great", api.AirTable{Rows: []api.AirRow{{Minutes: behind}}}, api.ErrArg},
	{"Out below 0", api.AirTable{Rows: []api.AirRow{{Out: -1}}}, api.ErrArg},
	{"Out too great", api.AirTable{Rows: []api.AirRow{{Out: math.MaxInt}}}, api.ErrArg},
	{"Rest below 0", api.AirTable{Rest: -1}, api.ErrArg},
	{"Rest too great", api.AirTable{Rest: behind}, api.ErrArg},
	{"Day below 0", api.AirTable{Day: -1}, api.ErrArg},
	{"Day too great", api.AirTable{Day: behind}, api.ErrArg},
}

// TestCheckTable: P8.3, each function returns the error of its table, ahead of all others.
func TestCheckTable(t *testing.T) {
	for _, c := range wrongTables {
		out, e := works.WayOut(c.t, -1, -1)
		alone(t, "WayOut", e, out)
		faults, f := works.Faults(c.t, make([]api.Dive, 129))
		alone(t, "Faults", f, faults)
		next, g := works.Next(c.t, make([]api.Dive, 129), "", -1, -1, -1)
		alone(t, "Next", g, next)
		equal(t, c.what, []api.Errno{works.CheckTable(c.t), e, f, g}, slices.Repeat([]api.Errno{c.want}, 4))
	}
	great := api.AirRow{Pressure: api.MaxTime, Minutes: api.MaxTime, Out: api.MaxTime}
	for _, table := range []api.AirTable{{}, exampleTable(), {Rows: slices.Repeat([]api.AirRow{great}, 64), Rest: api.MaxTime, Day: api.MaxTime}} {
		equal(t, said(table), works.CheckTable(table), api.OK)
	}
	for _, n := range []int{-1, behind, math.MinInt, math.MaxInt} {
		out, e := works.WayOut(exampleTable(), n, 0)
		alone(t, "WayOut", e, out)
		out, f := works.WayOut(exampleTable(), 0, n)
		alone(t, "WayOut", e, out)
		equal(t, fmt.Sprint(n), []api.Errno{e, f}, []api.Errno{api.ErrArg, api.ErrArg})
	}
}

// wrongStays are lists of stays with their errors.
var wrongStays = []struct {
	what string
	l    []api.Dive
	want api.Errno
}{
	{"129 stays that are none", make([]api.Dive, 129), api.ErrLimit},
	{"no name", []api.Dive{{Pressure: -1}}, api.ErrName},
	{"17 bytes", []api.Dive{{Worker: strings.Repeat("a", 17)}}, api.ErrName},
	{"any bytes", []api.Dive{dive(100, 0, 50, 60), {Worker: "\xff"}}, api.ErrName},
	{"Pressure below 0", []api.Dive{dive(-1, 0, 50, 60)}, api.ErrArg},
	{"Pressure too great", []api.Dive{dive(behind, 0, 50, 60)}, api.ErrArg},
	{"In below 0", []api.Dive{dive(100, -1, 50, 60)}, api.ErrArg},
	{"In too great", []api.Dive{dive(100, behind, 50, 60)}, api.ErrArg},
	{"Leave below 0", []api.Dive{dive(100, 0, -1, 60)}, api.ErrArg},
	{"Leave too great", []api.Dive{dive(100, 0, behind, 60)}, api.ErrArg},
	{"Out below 0", []api.Dive{dive(100, 0, 50, math.MinInt)}, api.ErrArg},
	{"Out too great", []api.Dive{dive(100, 0, 50, math.MaxInt)}, api.ErrArg},
	{"back in time", []api.Dive{dive(100, 10, 50, 60), dive(100, 9, 50, 60), {}}, api.ErrState},
	{"back in time, another worker", []api.Dive{dive(100, 10, 50, 60), {Worker: "bob"}}, api.ErrState},
	{"back in time, and Pressure below 0", []api.Dive{dive(100, 10, 50, 60), dive(-1, 9, 50, 60)}, api.ErrArg},
}

// TestCheckStays: P8.3, the errors of stays.
func TestCheckStays(t *testing.T) {
	for _, c := range wrongStays {
		faults, e := works.Faults(exampleTable(), c.l)
		alone(t, "Faults", e, faults)
		next, f := works.Next(exampleTable(), c.l, "", -1, -1, -1)
		alone(t, "Next", f, next)
		equal(t, c.what, []api.Errno{e, f}, []api.Errno{c.want, c.want})
	}
	faults, e := works.Faults(exampleTable(), slices.Repeat([]api.Dive{dive(0, api.MaxTime, api.MaxTime, api.MaxTime)}, 128))
	equal(t, "128 stays", []any{faults, e}, []any{slices.Repeat([]api.AirFault{api.AfOrder}, 128), api.OK})
}

// TestCheckNext: P8.3, the errors of Next behind those of the stays, in their order.
func TestCheckNext(t *testing.T) {
	good := []api.Dive{dive(100, 0, 50, 60)}
	bad := []api.Dive{dive(100, 0, 50, 59)}
	for _, c := range []struct {
		what                     string
		l                        []api.Dive
		worker                   string
		pressure, minutes, ready int
		want                     api.Errno
	}{
		{"a fault", bad, "", -1, -1, -1, api.ErrState},
		{"a fault of another worker", bad, "bob", 100, 60, 0, api.ErrState},
		{"no name", good, "", -1, -1, -1, api.ErrName},
		{"a blank", good, "a b", -1, -1, -1, api.ErrName},
		{"Pressure below 0", good, "ann", -1, 60, 0, api.ErrArg},
		{"Pressure too great", good, "ann", behind, 60, 0, api.ErrArg},
		{"minutes below 0", good, "ann", 200, -1, 0, api.ErrArg},
		{"minutes 0", good, "ann", 200, 0, 0, api.ErrArg},
		{"minutes too great", good, "ann", 200, behind, 0, api.ErrArg},
		{"ready below 0", good, "ann", 200, 60, -1, api.ErrArg},
		{"ready too great", good, "ann", 200, 60, behind, api.ErrArg},
		{"no row for the pressure", good, "ann", 101, 60, api.MaxTime, api.ErrNone},
		{"no row for the minutes", good, "ann", 100, 61, api.MaxTime, api.ErrNone},
		{"no time left", good, "ann", 100, 60, api.MaxTime - 69, api.ErrScope},
		{"time left", good, "ann", 100, 60, api.MaxTime - 70, api.OK},
		{"no time at all", good, "ann", 100, 60, api.MaxTime, api.ErrScope},
	} {
		next, e := works.Next(exampleTable(), c.l, c.worker, c.pressure, c.minutes, c.ready)
		alone(t, c.what, e, next)
		equal(t, c.what, e, c.want)
	}
}
