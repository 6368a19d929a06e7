package works

import (
	"slices"

	"underpin/api"
)

// board is a schedule in the making.
type board struct {
	job     api.Job
	placed  []bool
	starts  []int   // of tasks that are placed, 0 of others
	tallies []tally // of resources
}

// newBoard returns a board without tasks.
func newBoard(j api.Job) board {
	b := board{job: j, placed: make([]bool, len(j.Tasks)), starts: make([]int, len(j.Tasks))}
	for _, r := range j.Resources {
		t := newTally(r.Many)
		for _, off := range r.Off {
			t.use(off, r.Many) // what is off is like what others use
		}
		b.tallies = append(b.tallies, t)
	}
	return b
}

// copied returns a board in memory of its own.
func (b board) copied() board {
	b.placed, b.starts, b.tallies = slices.Clone(b.placed), slices.Clone(b.starts), slices.Clone(b.tallies)
	return b
}

// put places a task at a start.
func (b board) put(task, start int) {
	t := b.job.Tasks[task]
	b.placed[task], b.starts[task] = true, start
	for _, u := range t.Uses {
		b.tallies[u.Resource].use(api.Span{Low: start, High: start + t.Takes - 1}, u.Many)
	}
}

// place places a task, whose needs are placed, at the least start from a minute on; false if there is none.
func (b board) place(task, from int) bool {
	t := b.job.Tasks[task]
	for _, need := range t.Needs {
		from = max(from, endOf(b.job, b.starts, need))
	}
	var claims []claim
	for _, u := range t.Uses {
		if t.Takes > 0 { // in no minute nothing is used
			claims = append(claims, claim{b.tallies[u.Resource].first, u.Many})
		}
	}
	start := firstOf(from, t.Takes, claims)
	if start+t.Takes > api.MaxTime {
		return false
	}
	b.put(task, start)
	return true
}

// placeAll places tasks of an order that are not placed, each from a minute on; false if one of them cannot be.
func (b board) placeAll(order []int, from int) bool {
	for _, task := range sequence(b.job.Tasks, order, b.placed) {
		if !b.place(task, from) {
			return false
		}
	}
	return true
}

// sequence returns the tasks of an order as they are placed behind others: at each step the first one whose needs all stand.
// Those in a circle, and behind one, are missing.
func sequence(tasks []api.Task, order []int, placed []bool) []int {
	stands := slices.Clone(placed)
	var list []int
	for range order {
		for _, task := range order {
			if isNext(tasks, stands, task) {
				stands[task] = true
				list = append(list, task)
				break
			}
		}
	}
	return list
}

// isNext tells whether a task does not stand, but all of its needs do.
func isNext(tasks []api.Task, stands []bool, task int) bool {
	return !stands[task] && !slices.ContainsFunc(tasks[task].Needs, func(need int) bool { return !stands[need] })
}

// inOrder returns the numbers of tasks, each behind those that it needs.
func inOrder(tasks []api.Task) []int {
	numbers := make([]int, len(tasks))
	for i := range numbers {
		numbers[i] = i
	}
	return sequence(tasks, numbers, make([]bool, len(tasks)))
}

// keeps tells whether starts, as many as there are tasks, keep a job.
func keeps(j api.Job, starts []int) bool {
	for task, start := range starts {
		if !isTime(start) || endOf(j, starts, task) > api.MaxTime {
			return false
		}
	}
	b := newBoard(j)
	for task, t := range j.Tasks {
		for _, need := range t.Needs {
			if starts[task] < endOf(j, starts, need) {
				return false
			}
		}
		b.put(task, starts[task])
	}
	for i := range b.tallies {
		if !b.tallies[i].isKept() {
			return false
		}
	}
	return true
}

// endOf returns the end of a task of a schedule.
func endOf(j api.Job, starts []int, task int) int {
	return starts[task] + j.Tasks[task].Takes
}

// lengthOf returns the greatest end of the tasks of a schedule.
func lengthOf(j api.Job, starts []int) int {
	length := 0
	for task := range starts {
		length = max(length, endOf(j, starts, task))
	}
	return length
}

// picture is the starts of a board, each of them one more than it is, and 0 for tasks that are not placed.
type picture [api.MaxBestTasks]int

// picture returns the picture of a board of a few tasks.
func (b board) picture() picture {
	var p picture
	for task, start := range b.starts {
		if b.placed[task] {
			p[task] = start + 1
		}
	}
	return p
}

// winner is the best schedule that was found.
type winner struct {
	found  bool
	starts []int
	length int
	seen   map[picture]bool // what boards were searched: many orders lead to the same one
}

// search finds all schedules that come of a board by placing its other tasks in any order.
// A best one is among them: placed in the order of its own starts, no task comes later, so that none comes earlier either.
func (w *winner) search(b board) {
	length := lengthOf(b.job, b.starts)
	if w.seen[b.picture()] || w.found && length > w.length {
		return
	}
	w.seen[b.picture()] = true
	if !slices.Contains(b.placed, false) {
		if !w.found || length < w.length || slices.Compare(b.starts, w.starts) < 0 {
			w.found, w.starts, w.length = true, b.starts, length
		}
		return
	}
	for task := range b.job.Tasks {
		if !isNext(b.job.Tasks, b.placed, task) {
			continue
		}
		if more := b.copied(); more.place(task, 0) {
			w.search(more)
		}
	}
}

// failed returns a job in which a resource is off in the minutes of a span more; false if it has too many spans then.
func failed(j api.Job, resource int, off api.Span) (api.Job, bool) {
	var out api.Job
	for _, t := range j.Tasks {
		t.Needs, t.Uses = slices.Clone(t.Needs), slices.Clone(t.Uses)
		out.Tasks = append(out.Tasks, t)
	}
	for _, r := range j.Resources {
		r.Off = slices.Clone(r.Off)
		out.Resources = append(out.Resources, r)
	}
	r := &out.Resources[resource]
	r.Off = joined(append(r.Off, off))
	return out, len(r.Off) <= api.MaxOffs
}

// joined returns as few spans as can be with the same minutes, in ascending order.
func joined(spans []api.Span) []api.Span {
	slices.SortFunc(spans, func(a, b api.Span) int { return a.Low - b.Low })
	var out []api.Span
	for _, s := range spans {
		last := len(out) - 1
		if last >= 0 && s.Low <= out[last].High+1 {
			out[last].High = max(out[last].High, s.High)
		} else {
			out = append(out, s)
		}
	}
	return out
}

// goOn returns the schedule that goes on when a resource fails now; j is the new job. It is false if a task cannot be placed.
func goOn(j api.Job, starts []int, now, resource int) ([]int, bool) {
	b := newBoard(j)
	var others []int
	for task, t := range j.Tasks {
		uses := slices.ContainsFunc(t.Uses, func(u api.Use) bool { return u.Resource == resource })
		if starts[task] < now && (!uses || endOf(j, starts, task) <= now) {
			b.put(task, starts[task])
		} else {
			others = append(others, task)
		}
	}
	slices.SortStableFunc(others, func(a, b int) int { return starts[a] - starts[b] })
	return b.starts, b.placeAll(others, now)
}
