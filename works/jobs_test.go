package works_test

import (
	"fmt"
	"math"
	"math/rand"
	"slices"
	"testing"

	"underpin/api"
	"underpin/works"
)

// TestExampleJob: the chapter's examples of jobs.
func TestExampleJob(t *testing.T) {
	j := exampleJob()
	starts, e := works.Serial(j, []int{2, 0, 1})
	equal(t, "Serial", []any{starts, e}, []any{[]int{0, 4, 7}, api.OK})
	length, e := works.Length(j, starts)
	equal(t, "Length", []any{length, e}, []any{10, api.OK})
	floor, e := works.Least(j)
	equal(t, "Least", []any{floor, e}, []any{api.Floor{Minutes: 9}, api.OK})
	job, again, e := works.Fail(j, starts, 2, 0, 3)
	equal(t, "Fail", []any{again, e}, []any{[]int{7, 11, 12}, api.OK})
	equal(t, "off", job.Resources[0].Off, []api.Span{{Low: 2, High: 3}, {Low: 5, High: 6}})
	best, length, e := works.Best(j)
	equal(t, "Best", []any{best, length, e}, []any{[]int{0, 4, 7}, 10, api.OK})
	order, e := works.Order(j)
	equal(t, "Order", []any{order, e}, []any{[]int{0, 1, 2}, api.OK})
}

// TestOrder: P8.1, at each step the least number whose needs all stand.
func TestOrder(t *testing.T) {
	task := func(name string, needs ...int) api.Task { return api.Task{Name: name, Needs: needs} }
	for _, c := range []struct {
		tasks []api.Task
		want  []int
	}{
		{nil, nil},
		{[]api.Task{task("a"), task("b"), task("c")}, []int{0, 1, 2}},
		{[]api.Task{task("a", 2), task("b"), task("c")}, []int{1, 2, 0}},
		{[]api.Task{task("a", 3), task("b", 0), task("c"), task("d")}, []int{2, 3, 0, 1}},
		{[]api.Task{task("a", 1, 2), task("b", 3), task("c", 3), task("d")}, []int{3, 1, 2, 0}},
	} {
		order, e := works.Order(api.Job{Tasks: c.tasks})
		equal(t, said(c.tasks), []any{said(order), e}, []any{said(c.want), api.OK})
	}
}

// TestOrderRandom: P8.1, by the chapter's words.
func TestOrderRandom(t *testing.T) {
	r := rand.New(rand.NewSource(91))
	for range 500 {
		j := randomJob(r, 12)
		var want []int
		for range j.Tasks {
			want = append(want, slices.IndexFunc(j.Tasks, func(task api.Task) bool {
				number := slices.IndexFunc(j.Tasks, func(other api.Task) bool { return other.Name == task.Name })
				return !slices.Contains(want, number) && !slices.ContainsFunc(task.Needs, func(need int) bool { return !slices.Contains(want, need) })
			}))
		}
		order, e := works.Order(j)
		equal(t, said(j), []any{said(order), e}, []any{said(want), api.OK})
	}
}

// TestKeeps: P8.1, each reason why a schedule does not keep a job.
func TestKeeps(t *testing.T) {
	for _, c := range []struct {
		what   string
		change func(j *api.Job)
		starts []int
		want   bool
	}{
		{"the example", nil, []int{0, 4, 7}, true},
		{"later", nil, []int{7, 20, 21}, true},
		{"ahead of the need's end", nil, []int{0, 3, 7}, false},
		{"ahead of the second need's end", nil, []int{0, 4, 4}, false},
		{"off at the begin", nil, []int{0, 4, 6}, false},
		{"off at the end", nil, []int{2, 10, 20}, false},
		{"off all in between", nil, []int{3, 10, 20}, false},
		{"up to what is off", nil, []int{1, 5, 7}, true},
		{"below 0", nil, []int{-1, 4, 7}, false},
		{"as far as can be", nil, []int{math.MaxInt, math.MaxInt, math.MinInt}, false},
		{"up to the last time", nil, []int{0, 4, api.MaxTime - 3}, true},
		{"behind the last time", nil, []int{0, 4, api.MaxTime - 2}, false},
		{"a start behind all times", func(j *api.Job) { j.Tasks[2].Takes = 0 }, []int{0, 4, behind}, false},
		{"the last start", func(j *api.Job) { j.Tasks[2].Takes = 0 }, []int{0, 4, api.MaxTime}, true},
		{"nothing to do while it is off", func(j *api.Job) { j.Tasks[2].Takes = 0 }, []int{0, 4, 5}, true},
		{"nothing to do while others work", func(j *api.Job) { j.Tasks[2].Takes, j.Tasks[2].Needs = 0, nil }, []int{0, 4, 2}, true},
		{"both at once", func(j *api.Job) { j.Tasks[2].Needs = nil }, []int{7, 11, 10}, false},
		{"one just behind the other", func(j *api.Job) { j.Tasks[2].Needs = nil }, []int{10, 14, 7}, true},
		{"both with two pieces", func(j *api.Job) { j.Tasks[2].Needs, j.Resources[0].Many = nil, 2 }, []int{7, 11, 10}, true},
		{"two pieces of two, and one", func(j *api.Job) {
			j.Tasks[2].Needs, j.Resources[0].Many, j.Tasks[0].Uses[0].Many = nil, 2, 2
		}, []int{7, 11, 10}, false},
	} {
		j := exampleJob()
		if c.change != nil {
			c.change(&j)
		}
		is, e := works.Keeps(j, c.starts)
		equal(t, c.what, []any{is, e}, []any{c.want, api.OK})
		length, e := works.Length(j, c.starts)
		if c.want {
			equal(t, c.what, []any{length, e}, []any{endsAt(j, c.starts), api.OK})
		} else {
			equal(t, c.what, []any{length, e}, []any{0, api.ErrState})
		}
	}
	is, e := works.Keeps(api.Job{}, nil)
	equal(t, "no tasks", []any{is, e}, []any{true, api.OK})
	length, e := works.Length(api.Job{}, []int{})
	equal(t, "no tasks", []any{length, e}, []any{0, api.OK})
}

// TestKeepsSpread: P8.1 and R7, a resource that is off as often as can be, with as many tasks that use it one by one.
func TestKeepsSpread(t *testing.T) {
	j := api.Job{Resources: []api.Resource{{Many: 1}}, Tasks: slices.Repeat([]api.Task{{Takes: 1, Uses: []api.Use{{Many: 1}}}}, api.MaxTasks)}
	var starts []int
	for i := range api.MaxTasks {
		starts = append(starts, 1+3*i)
	}
	for i := range api.MaxOffs {
		j.Resources[0].Off = append(j.Resources[0].Off, api.Span{Low: 1000 + 3*i, High: 1000 + 3*i})
	}
	j = named(j)
	is, e := works.Keeps(j, starts)
	equal(t, "spread", []any{is, e}, []any{true, api.OK})
	starts[63] = 1045
	is, e = works.Keeps(j, starts)
	equal(t, "the last one while it is off", []any{is, e}, []any{false, api.OK})
	_, again, e := works.Fail(j, mustSerial(t, j, all(api.MaxTasks)), 9, 0, 999)
	equal(t, "all but those that are over, in the gaps", []any{again[8], again[9], again[10], again[11], again[63], e}, []any{8, 1001, 1002, 1004, 1070, api.OK})
}

// TestStarts: P8.1, lists of starts, and orders, of a wrong form.
func TestStarts(t *testing.T) {
	j := exampleJob()
	for _, l := range [][]int{nil, {0, 4}, {0, 4, 7, 10}, make([]int, 1000)} {
		is, e := works.Keeps(j, l)
		alone(t, "Keeps", e, is)
		length, f := works.Length(j, l)
		alone(t, "Length", f, length)
		job, again, g := works.Fail(j, l, -1, -1, -1)
		alone(t, "Fail", g, job, again)
		equal(t, said(l), []api.Errno{e, f, g}, slices.Repeat([]api.Errno{api.ErrArg}, 3))
	}
	for _, l := range [][]int{nil, {0, 1}, {0, 1, 1}, {0, 1, 3}, {-1, 0, 1}, {0, 1, 2, 0}, {0, 1, math.MaxInt}, make([]int, 1000)} {
		starts, e := works.Serial(j, l)
		alone(t, "Serial", e, starts)
		equal(t, said(l), e, api.ErrArg)
	}
	starts, e := works.Serial(api.Job{}, nil)
	equal(t, "no tasks", []any{len(starts), e}, []any{0, api.OK})
}

// TestKeepsRandom: P8.1, schedules that are close to one that keeps a job.
func TestKeepsRandom(t *testing.T) {
	r := rand.New(rand.NewSource(92))
	yes, no := 0, 0
	for range 3000 {
		j := randomJob(r, 7)
		if r.Intn(8) == 0 {
			j = delayed(r, j)
		}
		starts := byTask(nil)
		if !place(j, starts, r.Perm(len(j.Tasks)), r.Intn(6)) {
			continue
		}
		for range r.Intn(3) {
			if len(starts) > 0 {
				starts[r.Intn(len(starts))] += r.Intn(7) - 3
			}
		}
		l := listOf(starts, len(j.Tasks))
		want := keepAll(j, l)
		is, e := works.Keeps(j, l)
		equal(t, said(j, l), []any{is, e}, []any{want, api.OK})
		length, e := works.Length(j, l)
		if want {
			yes++
			equal(t, said(j, l), []any{length, e}, []any{endsAt(j, l), api.OK})
		} else {
			no++
			equal(t, said(j, l), []any{length, e}, []any{0, api.ErrState})
		}
	}
	if yes < 500 || no < 500 {
		t.Error("too few:", yes, no)
	}
}

// TestSerialRandom: P8.1, by the chapter's words.
func TestSerialRandom(t *testing.T) {
	r := rand.New(rand.NewSource(93))
	fits, not := 0, 0
	for i := range 1500 {
		j := randomJob(r, 9)
		switch {
		case i%10 == 0:
			j = delayed(r, j)
		case i%100 == 1:
			j = stretched(r, j)
		}
		order := r.Perm(len(j.Tasks))
		want := byTask(nil)
		placed := place(j, want, order, 0)
		starts, e := works.Serial(j, order)
		alone(t, "Serial", e, starts)
		if placed {
			fits++
			equal(t, said(j, order), []any{said(starts), e}, []any{said(listOf(want, len(j.Tasks))), api.OK})
		} else {
			not++
			equal(t, said(j, order), e, api.ErrScope)
		}
	}
	if fits < 1000 || not < 10 {
		t.Error("too few:", fits, not)
	}
}

// TestSerialFar: P8.1, where there is no start, or only the last one.
func TestSerialFar(t *testing.T) {
	for _, c := range []struct {
		what  string
		off   []api.Span
		takes int
		want  []int
		e     api.Errno
	}{
		{"never", []api.Span{{Low: 0, High: api.MaxTime}}, 1, nil, api.ErrScope},
		{"never, but nothing to do", []api.Span{{Low: 0, High: api.MaxTime}}, 0, []int{0}, api.OK},
		{"the last minute", []api.Span{{Low: 0, High: api.MaxTime - 2}}, 1, []int{api.MaxTime - 1}, api.OK},
		{"the minute behind it", []api.Span{{Low: 0, High: api.MaxTime - 1}}, 1, nil, api.ErrScope},
		{"a minute too many", []api.Span{{Low: 0, High: api.MaxTime - 2}}, 2, nil, api.ErrScope},
		{"all time", nil, api.MaxTime, []int{0}, api.OK},
		{"all time but the last minute, which no task can use", []api.Span{{Low: api.MaxTime, High: api.MaxTime}}, api.MaxTime, []int{0}, api.OK},
		{"a gap that is too small", []api.Span{{Low: 2, High: 2}, {Low: 5, High: 5}, {Low: 9, High: 9}}, 3, []int{6}, api.OK},
		{"spans that touch", []api.Span{{Low: 0, High: 0}, {Low: 1, High: 1}, {Low: 2, High: 7}}, 3, []int{8}, api.OK},
	} {
		j := api.Job{Resources: []api.Resource{{Name: "rig", Many: 2, Off: c.off}}, Tasks: []api.Task{{Name: "a", Takes: c.takes, Uses: []api.Use{{Many: 1}}}}}
		starts, e := works.Serial(j, []int{0})
		equal(t, c.what, []any{said(starts), e}, []any{said(c.want), c.e})
		best, length, e := works.Best(j)
		equal(t, c.what, []any{said(best), e}, []any{said(c.want), c.e})
		if e == api.OK {
			equal(t, c.what, length, c.want[0]+c.takes)
		}
	}
	wait := api.Job{Tasks: []api.Task{{Name: "a", Takes: api.MaxTime}, {Name: "b", Needs: []int{0}}, {Name: "c", Takes: 1, Needs: []int{0}}}}
	_, e := works.Serial(wait, []int{0, 1, 2})
	equal(t, "behind all time", e, api.ErrScope)
	wait.Tasks[2].Takes = 0
	starts, e := works.Serial(wait, []int{0, 1, 2})
	equal(t, "at the last time", []any{starts, e}, []any{[]int{0, api.MaxTime, api.MaxTime}, api.OK})
}

// eachSchedule calls a function with all lists of n starts up to a last one, in order, until it says false.
func eachSchedule(n, last int, look func(starts []int) bool) {
	starts := make([]int, n)
	for look(starts) {
		i := n - 1
		for ; i >= 0 && starts[i] == last; i-- {
			starts[i] = 0
		}
		if i < 0 {
			return
		}
		starts[i]++
	}
}

// TestBestRandom: P8.1 and P8.4, no schedule that keeps the job is shorter, or as short and ahead of Best's.
func TestBestRandom(t *testing.T) {
	r := rand.New(rand.NewSource(94))
	asked, better := 0, 0
	for i := range 600 {
		j := randomJob(r, 4)
		if i%2 == 0 {
			j = busyJob(r, 4)
		}
		best, length, e := works.Best(j)
		equal(t, said(j), e, api.OK)
		equal(t, said(j, best), []any{keepAll(j, best), endsAt(j, best)}, []any{true, length})
		if length > 14 {
			continue
		}
		asked++
		if serial := mustSerial(t, j, all(len(j.Tasks))); !slices.Equal(serial, best) {
			better++
		}
		eachSchedule(len(j.Tasks), length, func(starts []int) bool {
			shorter := endsAt(j, starts) < length || endsAt(j, starts) == length && slices.Compare(starts, best) < 0
			if shorter && keepAll(j, starts) {
				t.Fatal("a better one:", said(j, best, starts))
			}
			return true
		})
	}
	if asked < 200 || better < 20 {
		t.Error("too few:", asked, better)
	}
}

// orders are all orders of some numbers.
func orders(l []int) [][]int {
	if len(l) == 0 {
		return [][]int{nil}
	}
	var out [][]int
	for i, x := range l {
		for _, more := range orders(slices.Concat(l[:i], l[i+1:])) {
			out = append(out, append([]int{x}, more...))
		}
	}
	return out
}

// bestOfSerial is the best schedule that Serial returns for any order; nil if there is none.
func bestOfSerial(j api.Job) []int {
	var best []int
	for _, order := range orders(all(len(j.Tasks))) {
		starts, e := works.Serial(j, order)
		if e != api.OK {
			continue
		}
		if best == nil || endsAt(j, starts) < endsAt(j, best) || endsAt(j, starts) == endsAt(j, best) && slices.Compare(starts, best) < 0 {
			best = starts
		}
	}
	return best
}

// TestBestOfSerial: P8.4, Best's is Serial's for some order, and there is one whenever Serial has one.
func TestBestOfSerial(t *testing.T) {
	r := rand.New(rand.NewSource(95))
	none, some, first := 0, 0, 0
	for i := range 400 {
		j := randomJob(r, 6)
		if i%2 == 0 {
			j = delayed(r, busyJob(r, 3+r.Intn(3)))
		}
		if len(j.Tasks) == 0 {
			continue
		}
		want := bestOfSerial(j)
		best, length, e := works.Best(j)
		if want == nil {
			none++
			equal(t, said(j), []any{len(best), length, e}, []any{0, 0, api.ErrScope})
			continue
		}
		some++
		equal(t, said(j), []any{best, length, e}, []any{want, endsAt(j, want), api.OK})
		if _, e := works.Serial(j, all(len(j.Tasks))); e != api.OK {
			first++
		}
	}
	if none < 10 || some < 200 || first < 2 {
		t.Error("too few:", none, some, first)
	}
}

// TestBestLimits: P8.1, seven tasks are allowed, eight are not; no tasks need no minute.
func TestBestLimits(t *testing.T) {
	j := api.Job{Resources: []api.Resource{{Name: "rig", Many: 7}}}
	for i := range 7 {
		j.Tasks = append(j.Tasks, api.Task{Name: string(rune('a' + i)), Takes: 10 + i, Uses: []api.Use{{Many: 1 + i}}})
	}
	starts, length, e := works.Best(j)
	equal(t, "seven tasks", []any{keepAll(j, starts), endsAt(j, starts), e}, []any{true, length, api.OK})
	equal(t, "6 and 1 pieces, 5 and 2, 4 and 3 together", length, 16+15+14+13)
	j.Tasks = append(j.Tasks, api.Task{Name: "h"})
	starts, length, e = works.Best(j)
	equal(t, "eight tasks", []any{len(starts), length, e}, []any{0, 0, api.ErrLimit})
	j.Resources[0].Off = []api.Span{{Low: 0, High: api.MaxTime}}
	_, _, e = works.Best(j)
	equal(t, "eight tasks that cannot be placed", e, api.ErrLimit)
	starts, length, e = works.Best(api.Job{Resources: j.Resources})
	equal(t, "no tasks", []any{len(starts), length, e}, []any{0, 0, api.OK})
}

// allChains are all chains of tasks.
func allChains(j api.Job, chain []int) [][]int {
	var out [][]int
	if len(chain) > 0 {
		out = append(out, slices.Clone(chain))
	}
	for task, t := range j.Tasks {
		if len(chain) == 0 || slices.Contains(t.Needs, chain[len(chain)-1]) {
			out = append(out, allChains(j, append(slices.Clip(chain), task))...)
		}
	}
	return out
}

// timeOf is what the tasks of a chain take.
func timeOf(j api.Job, chain []int) int {
	sum := 0
	for _, task := range chain {
		sum += j.Tasks[task].Takes
	}
	return sum
}

// provedBy is the greatest number of minutes up to the last time and one more that a resource proves.
func provedBy(j api.Job, resource int) int {
	used, has := 0, 0
	for _, t := range j.Tasks {
		for _, u := range t.Uses {
			if u.Resource == resource {
				used += t.Takes * u.Many
			}
		}
	}
	proved := 0
	for minutes := 1; minutes <= api.MaxTime+1 && used > has; minutes++ {
		proved = minutes
		if !isOff(j.Resources[resource], minutes-1) {
			has += j.Resources[resource].Many
		}
	}
	return proved
}

// floorOf is the floor that Least is to return.
func floorOf(j api.Job) api.Floor {
	f := api.Floor{Minutes: -1}
	for _, chain := range allChains(j, nil) {
		minutes := min(timeOf(j, chain), api.MaxTime+1)
		if minutes > f.Minutes || minutes == f.Minutes && slices.Compare(chain, f.Chain) < 0 {
			f = api.Floor{Minutes: minutes, Chain: chain}
		}
	}
	for resource := range j.Resources {
		if proved := provedBy(j, resource); len(j.Tasks) > 0 && proved > f.Minutes {
			f = api.Floor{Minutes: proved, Resource: resource}
		}
	}
	f.Minutes = max(0, f.Minutes)
	return f
}

// TestLeastRandom: P8.1, all chains and resources are looked at.
func TestLeastRandom(t *testing.T) {
	r := rand.New(rand.NewSource(96))
	byChain, byResource, later := 0, 0, 0
	for i := range 3000 {
		j := randomJob(r, 9)
		switch {
		case i%10 == 0:
			j = delayed(r, j)
		case i%10 == 1:
			j = stretched(r, stretched(r, j))
		}
		want := floorOf(j)
		floor, e := works.Least(j)
		equal(t, said(j), []any{floor.Minutes, said(floor.Chain), floor.Resource, e}, []any{want.Minutes, said(want.Chain), want.Resource, api.OK})
		switch {
		case len(floor.Chain) > 0:
			byChain++
		case floor.Minutes > 0:
			byResource++
			later += floor.Resource
		}
		proves, e := works.Proves(j, floor)
		equal(t, said(j, floor), []any{proves, e}, []any{true, api.OK})
	}
	if byChain < 500 || byResource < 500 || later < 100 {
		t.Error("too few:", byChain, byResource, later)
	}
}

// TestLeast: P8.1, floors of several chains and resources with the same minutes, and of more minutes than there are.
func TestLeast(t *testing.T) {
	task := func(takes int, needs ...int) api.Task { return api.Task{Takes: takes, Needs: needs} }
	using := func(t api.Task, resource, many int) api.Task {
		t.Uses = append(t.Uses, api.Use{Resource: resource, Many: many})
		return t
	}
	const most = api.MaxTime
	for _, c := range []struct {
		what      string
		resources []api.Resource
		tasks     []api.Task
		want      api.Floor
	}{
		{"nothing", nil, nil, api.Floor{}},
		{"no tasks", []api.Resource{{Many: 1}}, nil, api.Floor{}},
		{"nothing to do", nil, []api.Task{task(0), task(0, 0)}, api.Floor{Chain: []int{0}}},
		{"the least of two", nil, []api.Task{task(2), task(3), task(3)}, api.Floor{Minutes: 3, Chain: []int{1}}},
		{"nothing to do ahead", nil, []api.Task{task(0), task(3, 0)}, api.Floor{Minutes: 3, Chain: []int{0, 1}}},
		{"nothing to do behind", nil, []api.Task{task(3), task(0, 0)}, api.Floor{Minutes: 3, Chain: []int{0}}},
		{"numbers that fall", nil, []api.Task{task(1, 2), task(9), task(5, 3), task(4)}, api.Floor{Minutes: 10, Chain: []int{3, 2, 0}}},
		{"the chain, of both", []api.Resource{{Many: 1}}, []api.Task{using(task(3), 0, 1)}, api.Floor{Minutes: 3, Chain: []int{0}}},
		{"the resource", []api.Resource{{Many: 1, Off: []api.Span{{Low: 1, High: 1}}}}, []api.Task{using(task(3), 0, 1)}, api.Floor{Minutes: 4}},
		{"the least resource", []api.Resource{{Many: 3}, {Many: 2}, {Many: 1}}, []api.Task{using(using(task(3), 1, 2), 2, 1), using(using(task(3), 1, 2), 2, 1)}, api.Floor{Minutes: 6, Resource: 1}},
		{"part of a minute", []api.Resource{{Many: 3}}, []api.Task{using(task(1), 0, 2), using(task(1), 0, 2)}, api.Floor{Minutes: 2}},
		{"all minutes", nil, []api.Task{task(most)}, api.Floor{Minutes: most, Chain: []int{0}}},
		{"a minute more than all", nil, []api.Task{task(1), task(most, 0)}, api.Floor{Minutes: most + 1, Chain: []int{0, 1}}},
		{"a chain that is long enough", nil, []api.Task{task(1), task(1, 0), task(most, 1), task(most, 2)}, api.Floor{Minutes: most + 1, Chain: []int{0, 1, 2}}},
		{"a chain that needs no more", nil, []api.Task{task(5, 2), task(most), task(most, 1), task(0, 0)}, api.Floor{Minutes: most + 1, Chain: []int{1, 2}}},
		{"a resource that is off", []api.Resource{{Many: 1, Off: []api.Span{{Low: 0, High: most}}}}, []api.Task{using(task(1), 0, 1)}, api.Floor{Minutes: most + 1}},
		{"a resource up to the last minute", []api.Resource{{Many: 1, Off: []api.Span{{Low: 0, High: most - 2}}}}, []api.Task{using(task(1), 0, 1)}, api.Floor{Minutes: most}},
		{"a resource at the last time", []api.Resource{{Many: 1, Off: []api.Span{{Low: 0, High: most - 1}}}}, []api.Task{using(task(1), 0, 1)}, api.Floor{Minutes: most + 1}},
		{"a resource with more than it can do", []api.Resource{{Many: 1}}, []api.Task{using(task(most), 0, 1), using(task(most), 0, 1)}, api.Floor{Minutes: most + 1}},
		{"the chain, of both that never end", []api.Resource{{Many: 1}}, []api.Task{using(task(most), 0, 1), using(task(most, 0), 0, 1)}, api.Floor{Minutes: most + 1, Chain: []int{0, 1}}},
	} {
		j := named(api.Job{Resources: c.resources, Tasks: c.tasks})
		floor, e := works.Least(j)
		equal(t, c.what, []any{said(floor), e}, []any{said(c.want), api.OK})
		proves, e := works.Proves(j, floor)
		equal(t, c.what, []any{proves, e}, []any{true, api.OK})
	}
}

// named is a job whose things have names.
func named(j api.Job) api.Job {
	j = copied(j)
	for i := range j.Tasks {
		j.Tasks[i].Name = fmt.Sprint("t", i)
	}
	for i := range j.Resources {
		j.Resources[i].Name = fmt.Sprint("r", i)
	}
	return j
}

// TestProves: P8.1, floors that are proved, and others.
func TestProves(t *testing.T) {
	j := exampleJob()
	j.Resources = append(j.Resources, api.Resource{Name: "none"}, api.Resource{Name: "many", Many: 3})
	j.Tasks[1].Uses = []api.Use{{Resource: 2, Many: 3}}
	for _, c := range []struct {
		what string
		f    api.Floor
		want bool
	}{
		{"the whole chain", api.Floor{Minutes: 8, Chain: []int{0, 1, 2}}, true},
		{"less", api.Floor{Minutes: 5, Chain: []int{0, 1, 2}}, true},
		{"a minute more", api.Floor{Minutes: 9, Chain: []int{0, 1, 2}}, false},
		{"a part of it", api.Floor{Minutes: 4, Chain: []int{1, 2}}, true},
		{"a gap", api.Floor{Minutes: 5, Chain: []int{0, 2}}, false},
		{"back", api.Floor{Minutes: 1, Chain: []int{1, 0}}, false},
		{"twice the same", api.Floor{Minutes: 5, Chain: []int{0, 0}}, false},
		{"no such task", api.Floor{Minutes: 1, Chain: []int{3}}, false},
		{"no such task behind others", api.Floor{Minutes: 1, Chain: []int{0, 1, 2, 3}}, false},
		{"a task below 0", api.Floor{Minutes: 1, Chain: []int{-1}}, false},
		{"a chain, whatever the resource", api.Floor{Minutes: 8, Chain: []int{0, 1, 2}, Resource: 9}, true},
		{"a chain that does not prove what the resource does", api.Floor{Minutes: 9, Chain: []int{0}}, false},
		{"the resource", api.Floor{Minutes: 9}, true},
		{"the resource with an empty chain", api.Floor{Minutes: 9, Chain: []int{}}, true},
		{"a minute more of it", api.Floor{Minutes: 10}, false},
		{"far more", api.Floor{Minutes: math.MaxInt}, false},
		{"in no minute nothing is there", api.Floor{Minutes: 1, Resource: 2}, true},
		{"no such resource", api.Floor{Minutes: 1, Resource: 3}, false},
		{"a resource below 0", api.Floor{Minutes: 1, Resource: -1}, false},
		{"a resource that nobody uses", api.Floor{Minutes: 1, Resource: 1}, false},
		{"far more of that", api.Floor{Minutes: math.MaxInt, Resource: 1}, false},
		{"a resource that is used for a minute", api.Floor{Minutes: 2, Resource: 2}, false},
		{"0", api.Floor{Chain: []int{9}, Resource: 9}, true},
		{"below 0", api.Floor{Minutes: math.MinInt, Resource: -9}, true},
		{"0 of a resource", api.Floor{Resource: 1}, true},
	} {
		proves, e := works.Proves(j, c.f)
		equal(t, c.what, []any{proves, e}, []any{c.want, api.OK})
	}
	late := named(api.Job{
		Resources: []api.Resource{{Many: 2, Off: []api.Span{{Low: 0, High: api.MaxTime}}}},
		Tasks:     slices.Repeat([]api.Task{{Takes: api.MaxTime, Uses: []api.Use{{Many: 2}}}}, 20),
	})
	for minutes, want := range map[int]bool{api.MaxTime + 1: true, api.MaxTime + 2: true, 21 * api.MaxTime: true, 21*api.MaxTime + 1: true, 21*api.MaxTime + 2: false} {
		proves, e := works.Proves(late, api.Floor{Minutes: minutes})
		equal(t, said("behind the last time", minutes), []any{proves, e}, []any{want, api.OK})
	}
	proves, e := works.Proves(api.Job{}, api.Floor{Minutes: 1})
	equal(t, "a minute of nothing", []any{proves, e}, []any{false, api.OK})
}

// TestProvesRandom: P8.1, floors around those that are proved.
func TestProvesRandom(t *testing.T) {
	r := rand.New(rand.NewSource(97))
	yes, no := 0, 0
	for range 3000 {
		j := randomJob(r, 6)
		f := api.Floor{Minutes: r.Intn(20) - 1, Resource: r.Intn(4)}
		want := f.Minutes <= 0 || f.Resource < len(j.Resources) && f.Minutes <= provedBy(j, f.Resource)
		if chains := allChains(j, nil); len(chains) > 0 && r.Intn(2) == 0 {
			f.Chain = slices.Clone(chains[r.Intn(len(chains))])
			f.Minutes = timeOf(j, f.Chain) + r.Intn(3) - 1
			if r.Intn(3) == 0 {
				f.Chain[r.Intn(len(f.Chain))] = r.Intn(len(j.Tasks))
			}
			is := slices.ContainsFunc(chains, func(chain []int) bool { return slices.Equal(chain, f.Chain) })
			want = f.Minutes <= 0 || is && f.Minutes <= timeOf(j, f.Chain)
		}
		proves, e := works.Proves(j, f)
		equal(t, said(j, f), []any{proves, e}, []any{want, api.OK})
		if want {
			yes++
		} else {
			no++
		}
	}
	if yes < 500 || no < 500 {
		t.Error("too few:", yes, no)
	}
}
