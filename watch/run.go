package watch

import (
	"slices"

	"underpin/api"
)

// queue is what waits, in an order.
type queue[T any] struct {
	waiting []T
	before  func(a, b T) bool
}

// add puts something into a queue.
func (q *queue[T]) add(x T) {
	place := slices.IndexFunc(q.waiting, func(other T) bool { return q.before(x, other) })
	if place < 0 {
		place = len(q.waiting)
	}
	q.waiting = slices.Insert(q.waiting, place, x)
}

// take takes the first one out of a queue; false if there is none.
func (q *queue[T]) take() (x T, there bool) {
	if len(q.waiting) == 0 {
		return x, false
	}
	x, q.waiting = q.waiting[0], q.waiting[1:]
	return x, true
}

// outlook is what is known of a quantity.
type outlook struct {
	readings []api.Reading // of the whole log
	read     int           // how many of them have been read
	broken   bool
	since    int // when it was reckoned last
	highest  int // the greatest value then
}

// readOn reads readings up to a time, and tells whether there were any.
func (o *outlook) readOn(now int) bool {
	ahead := o.read
	for o.read < len(o.readings) && o.readings[o.read].Time <= now {
		o.read++
	}
	return o.read > ahead
}

// never is the time of what has not come.
const never = -1

// runner is a plan as far as it has been run.
type runner struct {
	plan     api.WatchPlan
	now      int
	events   []api.WatchEvent
	outlooks []outlook // of quantities
	raised   []bool    // of alarms
	ready    []int     // of measures: from when on each of them may begin, or never
	ends     []int     // of measures: when each of them is done, or never
	crews    map[string]*queue[int]
	names    []string       // of crews, in the order of the first measure of each
	free     map[string]int // of crews: from when on each of them may begin something
}

// newRunner returns a plan that has not been run.
func newRunner(p api.WatchPlan, l []api.Entry) *runner {
	r := &runner{
		plan:     p,
		outlooks: make([]outlook, len(p.Quantities)),
		raised:   make([]bool, len(p.Alarms)),
		ready:    slices.Repeat([]int{never}, len(p.Measures)),
		ends:     slices.Repeat([]int{never}, len(p.Measures)),
		crews:    map[string]*queue[int]{},
		free:     map[string]int{},
	}
	for _, x := range l {
		o := &r.outlooks[x.Quantity]
		o.readings = append(o.readings, x.Reading)
	}
	for _, m := range p.Measures {
		if r.crews[m.Crew] == nil {
			r.names = append(r.names, m.Crew)
			r.crews[m.Crew] = &queue[int]{before: func(a, b int) bool { return p.Measures[a].Rank < p.Measures[b].Rank }}
		}
	}
	return r
}

// tell adds an event.
func (r *runner) tell(kind api.WatchKind, number int) {
	r.events = append(r.events, api.WatchEvent{Time: r.now, Kind: kind, Number: number})
}

// look reckons what quantities may be, and tells which ones are broken now.
func (r *runner) look() {
	for i, q := range r.plan.Quantities {
		o := &r.outlooks[i]
		news := o.readOn(r.now)
		if o.broken || !news && r.now > 0 {
			continue // without a reading the greatest value goes on with Rise, and no reading mends what is broken
		}
		spans := possible(q, o.readings[:o.read], r.now)
		if len(spans) == 0 {
			o.broken = true
			r.tell(api.WeBroken, i)
			continue
		}
		o.since, o.highest = r.now, spans[len(spans)-1].High
	}
}

// alarm raises alarms.
func (r *runner) alarm() {
	for i, a := range r.plan.Alarms {
		if !r.raised[i] && r.mayReach(a) {
			r.raised[i] = true
			r.ready[a.Measure] = r.now + r.plan.Measures[a.Measure].Lag
			r.tell(api.WeAlarm, i)
		}
	}
}

// mayReach tells whether the quantity of an alarm may be at its level now.
func (r *runner) mayReach(a api.Alarm) bool {
	o := r.outlooks[a.Quantity]
	return o.broken || o.highest+r.plan.Quantities[a.Quantity].Rise*(r.now-o.since) >= a.Level
}

// finish tells which measures are done.
func (r *runner) finish() {
	for i, end := range r.ends {
		if end == r.now {
			r.tell(api.WeDone, i)
		}
	}
}

// begin begins what crews that are free have to do.
func (r *runner) begin() {
	for i, m := range r.plan.Measures {
		if r.ready[i] == r.now {
			r.crews[m.Crew].add(i)
		}
	}
	for _, name := range r.names {
		for r.free[name] <= r.now {
			i, waits := r.crews[name].take()
			if !waits {
				break
			}
			end := r.now + r.plan.Measures[i].Takes
			r.ends[i], r.free[name] = end, end
			r.tell(api.WeBegin, i)
			if end == r.now {
				r.tell(api.WeDone, i)
			}
		}
	}
}
