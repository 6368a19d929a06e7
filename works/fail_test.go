package works_test

import (
	"cmp"
	"math"
	"math/rand"
	"slices"
	"testing"

	"underpin/api"
	"underpin/works"
)

// offSpans are the spans of the minutes in which a resource is off, or that are among more ones.
func offSpans(r api.Resource, more api.Span) []api.Span {
	var out []api.Span
	off := false
	for minute := range api.MaxTime + 1 {
		is := isOff(r, minute) || minute >= more.Low && minute <= more.High
		switch {
		case is && off:
			out[len(out)-1].High = minute
		case is:
			out = append(out, api.Span{Low: minute, High: minute})
		}
		off = is
	}
	return out
}

// failBy is what Fail is to return, by the chapter's words, for arguments without errors; false if a task cannot be placed.
func failBy(j api.Job, starts []int, now, resource, until int) (api.Job, []int, bool) {
	job := copied(j)
	job.Resources[resource].Off = offSpans(j.Resources[resource], api.Span{Low: now, High: until})
	kept := map[int]int{}
	var others []int
	for task, start := range starts {
		uses := slices.ContainsFunc(j.Tasks[task].Uses, func(u api.Use) bool { return u.Resource == resource })
		failed := uses && start+j.Tasks[task].Takes > now
		if start < now && !failed {
			kept[task] = start
		} else {
			others = append(others, task)
		}
	}
	slices.SortFunc(others, func(a, b int) int { return cmp.Or(cmp.Compare(starts[a], starts[b]), cmp.Compare(a, b)) })
	placed := place(job, kept, others, now)
	return job, listOf(kept, len(starts)), placed
}

// TestFail: P8.1, what comes of the example's schedule.
func TestFail(t *testing.T) {
	for _, c := range []struct {
		what       string
		change     func(j *api.Job)
		starts     []int
		now, until int
		off        []api.Span
		want       []int
	}{
		{"the example", nil, []int{0, 4, 7}, 2, 3, []api.Span{{Low: 2, High: 3}, {Low: 5, High: 6}}, []int{7, 11, 12}},
		{"at the first begin", nil, []int{0, 4, 7}, 0, 0, []api.Span{{Low: 0, High: 0}, {Low: 5, High: 6}}, []int{1, 5, 7}},
		{"in the last minute", nil, []int{0, 4, 7}, 3, 3, []api.Span{{Low: 3, High: 3}, {Low: 5, High: 6}}, []int{7, 11, 12}},
		{"behind the end", nil, []int{0, 4, 7}, 4, 4, []api.Span{{Low: 4, High: 6}}, []int{0, 4, 7}},
		{"earlier than it was", nil, []int{0, 20, 30}, 10, 10, []api.Span{{Low: 5, High: 6}, {Low: 10, High: 10}}, []int{0, 10, 11}},
		{"while another runs", func(j *api.Job) { j.Tasks[1].Takes = 9 }, []int{0, 4, 13}, 12, 20, []api.Span{{Low: 5, High: 6}, {Low: 12, High: 20}}, []int{0, 4, 21}},
		{"as another begins", func(j *api.Job) { j.Tasks[1].Takes = 9 }, []int{0, 8, 17}, 8, 9, []api.Span{{Low: 5, High: 6}, {Low: 8, High: 9}}, []int{0, 8, 17}},
		{"behind all", nil, []int{0, 4, 7}, 10, api.MaxTime, []api.Span{{Low: 5, High: 6}, {Low: 10, High: api.MaxTime}}, []int{0, 4, 7}},
		{"overlapping ahead", nil, []int{0, 4, 7}, 4, 5, []api.Span{{Low: 4, High: 6}}, []int{0, 4, 7}},
		{"overlapping behind", nil, []int{0, 4, 7}, 6, 8, []api.Span{{Low: 5, High: 8}}, []int{0, 4, 9}},
		{"touching behind", nil, []int{0, 4, 7}, 7, 8, []api.Span{{Low: 5, High: 8}}, []int{0, 4, 9}},
		{"in what is off", nil, []int{0, 4, 7}, 5, 5, []api.Span{{Low: 5, High: 6}}, []int{0, 4, 7}},
		{"all around what is off", nil, []int{0, 4, 7}, 4, 9, []api.Span{{Low: 4, High: 9}}, []int{0, 4, 10}},
		{"just what is off", nil, []int{0, 4, 7}, 5, 6, []api.Span{{Low: 5, High: 6}}, []int{0, 4, 7}},
		{"spans that touched", func(j *api.Job) {
			j.Resources[0].Off = []api.Span{{Low: 5, High: 5}, {Low: 6, High: 6}, {Low: 30, High: 31}, {Low: 32, High: 40}}
		}, []int{0, 4, 7}, 20, 21, []api.Span{{Low: 5, High: 6}, {Low: 20, High: 21}, {Low: 30, High: 40}}, []int{0, 4, 7}},
		{"a gap that is filled", func(j *api.Job) { j.Resources[0].Off = []api.Span{{Low: 5, High: 5}, {Low: 8, High: 8}} }, []int{9, 13, 14}, 6, 7, []api.Span{{Low: 5, High: 8}}, []int{9, 13, 14}},
		{"nothing to do at that minute", func(j *api.Job) { j.Tasks[2].Takes = 0 }, []int{0, 4, 5}, 5, 9, []api.Span{{Low: 5, High: 9}}, []int{0, 4, 5}},
		{"nothing to do, done", func(j *api.Job) { j.Tasks[2].Takes = 0 }, []int{0, 4, 5}, 6, 9, []api.Span{{Low: 5, High: 9}}, []int{0, 4, 5}},
		{"nothing to do, later", func(j *api.Job) { j.Tasks[2].Takes = 0 }, []int{0, 4, 9}, 6, 9, []api.Span{{Low: 5, High: 9}}, []int{0, 4, 6}},
	} {
		j := exampleJob()
		if c.change != nil {
			c.change(&j)
		}
		want := copied(j)
		want.Resources[0].Off = c.off
		job, again, e := works.Fail(j, c.starts, c.now, 0, c.until)
		equal(t, c.what, []any{said(job), again, e}, []any{said(want), c.want, api.OK})
		_, byWords, _ := failBy(j, c.starts, c.now, 0, c.until)
		equal(t, c.what+", by the chapter's words", byWords, c.want)
	}
}

// TestFailOrder: P8.1, the others are placed in the order of their old starts, of equal ones by their numbers.
func TestFailOrder(t *testing.T) {
	j := named(api.Job{Resources: []api.Resource{{Many: 1}, {Many: 2}}, Tasks: slices.Repeat([]api.Task{{Takes: 2, Uses: []api.Use{{Resource: 1, Many: 1}}}}, 4)})
	job, again, e := works.Fail(j, []int{6, 2, 0, 2}, 1, 0, 9)
	equal(t, "no task uses it", []any{again, e}, []any{[]int{3, 1, 0, 2}, api.OK})
	equal(t, "the other one is as it was", job.Resources, []api.Resource{{Name: "r0", Many: 1, Off: []api.Span{{Low: 1, High: 9}}}, {Name: "r1", Many: 2}})
	_, again, e = works.Fail(j, []int{6, 2, 0, 2}, 1, 1, 4)
	equal(t, "the one that failed is first", []any{again, e}, []any{[]int{7, 5, 5, 7}, api.OK})
	j.Tasks[1].Needs = []int{3}
	j.Tasks[3].Takes = 0
	_, again, e = works.Fail(j, []int{6, 2, 0, 2}, 2, 1, 2)
	equal(t, "a need has a greater number", []any{again, e}, []any{[]int{3, 3, 0, 2}, api.OK})
}

// TestFailErrors: P8.1, the errors of Fail, in their order.
func TestFailErrors(t *testing.T) {
	good, bad := []int{0, 4, 7}, []int{0, 4, 6}
	full := exampleJob()
	full.Resources[0].Off = nil
	for i := range 16 {
		full.Resources[0].Off = append(full.Resources[0].Off, api.Span{Low: 10 + 3*i, High: 11 + 3*i})
	}
	spread := copied(full)
	spread.Resources[0].Off[15] = api.Span{Low: 54, High: 54}
	spread.Resources[0].Off[14] = api.Span{Low: 53, High: 53}
	for _, c := range []struct {
		what                 string
		j                    api.Job
		starts               []int
		now, resource, until int
		want                 api.Errno
	}{
		{"too few starts", exampleJob(), good[:2], -1, 9, -1, api.ErrArg},
		{"does not keep it", exampleJob(), bad, -1, 9, -1, api.ErrState},
		{"no such resource", exampleJob(), good, -1, 1, -1, api.ErrNone},
		{"a resource below 0", exampleJob(), good, -1, -1, -1, api.ErrNone},
		{"a resource far off", exampleJob(), good, -1, math.MaxInt, -1, api.ErrNone},
		{"now below 0", full, good, -1, 0, 70, api.ErrArg},
		{"now behind all times", full, good, behind, 0, behind, api.ErrArg},
		{"until behind all times", full, good, 3, 0, behind, api.ErrArg},
		{"until as far as can be", full, good, 3, 0, math.MaxInt, api.ErrArg},
		{"until below now", full, good, 3, 0, 2, api.ErrArg},
		{"17 spans", full, good, 2, 0, 3, api.ErrLimit},
		{"17 spans, and no time left", full, good, 59, 0, api.MaxTime, api.ErrLimit},
		{"16 spans, one of which is longer", full, good, 12, 0, 12, api.OK},
		{"16 spans, of which two touch", spread, good, 70, 0, 70, api.OK},
		{"no time left", exampleJob(), good, 2, 0, api.MaxTime, api.ErrScope},
		{"time left", exampleJob(), good, 2, 0, api.MaxTime - 9, api.OK},
		{"a minute too few", exampleJob(), good, 2, 0, api.MaxTime - 8, api.ErrScope},
	} {
		job, again, e := works.Fail(c.j, c.starts, c.now, c.resource, c.until)
		alone(t, c.what, e, job, again)
		equal(t, c.what, e, c.want)
	}
}

// TestFailRandom: P8.1 and P8.5, by the chapter's words; what had ended, or runs on without the resource, is not touched, and the
// new job is kept.
func TestFailRandom(t *testing.T) {
	r := rand.New(rand.NewSource(98))
	moved, ran, not := 0, 0, 0
	for i := range 2000 {
		j := randomJob(r, 7)
		switch {
		case i%3 == 0:
			j = busyJob(r, 6)
		case i%20 == 1:
			j = delayed(r, j)
		}
		starts, e := works.Serial(j, r.Perm(len(j.Tasks)))
		if e != api.OK || len(j.Resources) == 0 {
			continue
		}
		for task := range starts {
			starts[task] += r.Intn(2) * r.Intn(5)
		}
		if !keepAll(j, starts) {
			starts = mustSerial(t, j, all(len(j.Tasks)))
		}
		now, resource := r.Intn(min(api.MaxTime, endsAt(j, starts)+3)), r.Intn(len(j.Resources))
		if i%20 == 1 {
			now = api.MaxTime - r.Intn(25)
		}
		until := min(api.MaxTime, now+r.Intn(6))
		if i%20 == 2 {
			until = api.MaxTime - r.Intn(8)
		}
		want, again, placed := failBy(j, starts, now, resource, until)
		job, got, e := works.Fail(j, starts, now, resource, until)
		if !placed {
			not++
			equal(t, said(j, starts, now, resource, until), []any{len(got), e}, []any{0, api.ErrScope})
			continue
		}
		equal(t, said(j, starts, now, resource, until), []any{said(job), said(got), e}, []any{said(want), said(again), api.OK})
		equal(t, "keeps the new job", keepAll(job, got), true)
		for task, start := range starts {
			end := start + j.Tasks[task].Takes
			uses := slices.ContainsFunc(j.Tasks[task].Uses, func(u api.Use) bool { return u.Resource == resource })
			switch {
			case end <= now && start < now || start < now && !uses:
				ran++
				equal(t, "touched", got[task], start)
			case got[task] != start:
				moved++
			}
			if got[task] != start && got[task] < now {
				t.Fatal("ahead of now:", said(j, starts, now, resource, until, got))
			}
		}
	}
	if moved < 500 || ran < 500 || not < 10 {
		t.Error("too few:", moved, ran, not)
	}
}
