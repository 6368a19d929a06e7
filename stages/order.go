package stages

import (
	"slices"

	"underpin/api"
)

// set is a set of stages, or of supports, by their numbers.
type set uint32

// setOf returns the set of all numbers of lists.
func setOf(lists ...[]int) set {
	var s set
	for _, k := range slices.Concat(lists...) {
		s |= 1 << k
	}
	return s
}

// has tells whether all of another set are in a set.
func (s set) has(other set) bool {
	return other&^s == 0
}

// count is 1 if a number is in a set, otherwise 0.
func (s set) count(k int) int {
	return int(s >> k & 1)
}

// step is a stage that is begun and done before the next one begins.
type step struct {
	self, after, needs, takes, sets set
}

// moment is what is done, and what stands, between two steps.
type moment struct{ done, standing set }

// mayCome tells whether a step may be the next one.
func (s step) mayCome(at moment) bool {
	return !at.done.has(s.self) && at.done.has(s.after) && at.standing.has(s.needs)
}

// behind returns the moment behind a step.
func (s step) behind(at moment) moment {
	return moment{at.done | s.self, at.standing&^s.takes | s.sets}
}

// course is steps that are to be done.
type course []step

// courseOf returns the steps of a plan. Of two steps that are alike the one ahead comes first in the least order, so that the
// other one is treated as if it had to come behind it: fewer orders need to be tried.
func courseOf(p api.Excavation) course {
	var c course
	for i, s := range p.Stages {
		c = append(c, step{1 << i, setOf(s.After), setOf(s.Rests, s.Takes), setOf(s.Takes), setOf(s.Sets)})
	}
	out := slices.Clone(c)
	for i, s := range c {
		for _, ahead := range c[:i] {
			if c.areAlike(ahead, s) {
				out[i].after |= ahead.self
			}
		}
	}
	return out
}

// areAlike tells whether two steps may change places in any order.
func (c course) areAlike(s, other step) bool {
	for _, third := range c {
		if third.after.has(s.self) != third.after.has(other.self) {
			return false
		}
	}
	other.self = s.self
	return s == other
}

// least returns the least order of all steps; false if there is none.
func (c course) least() ([]int, bool) {
	leads := c.search()
	var order []int
	var at moment
next:
	for len(order) < len(c) {
		for i, s := range c {
			if s.mayCome(at) && leads(s.behind(at)) {
				order, at = append(order, i), s.behind(at)
				continue next
			}
		}
		return nil, false
	}
	return order, true
}

// search returns what tells whether some order of all steps that are left leads on from a moment. It remembers moments,
// since many orders lead to the same one.
func (c course) search() func(moment) bool {
	known := map[moment]bool{}
	var leads func(moment) bool
	leads = func(at moment) bool {
		if at.done == c.all() {
			return true
		}
		at.standing &= c.left(at).needs // nothing else that stands matters
		answer, asked := known[at]
		if asked {
			return answer
		}
	search:
		for _, harmless := range []bool{true, false} {
			if !harmless && !c.hopes(at) {
				break
			}
			for _, s := range c {
				if !s.mayCome(at) || harmless && !c.bears(s, at) {
					continue
				}
				answer = leads(s.behind(at))
				if answer || harmless {
					break search
				}
			}
		}
		known[at] = answer
		return answer
	}
	return leads
}

// all returns all steps.
func (c course) all() set {
	return 1<<len(c) - 1
}

// left returns what the steps that are not done need, take and set together.
func (c course) left(at moment) step {
	var sum step
	for _, s := range c {
		if !at.done.has(s.self) {
			sum.needs, sum.takes, sum.sets = sum.needs|s.needs, sum.takes|s.takes, sum.sets|s.sets
		}
	}
	return sum
}

// bears tells whether a step that may come takes nothing from the others that are left if it comes at once, so that no
// other one needs to be tried: what it takes away no other one needs, and what it sets no other one takes, or, as it does
// not stand, no other one sets.
func (c course) bears(s step, at moment) bool {
	others := c.left(s.behind(at))
	gone, added := s.takes&^s.sets, s.sets&^s.takes
	return gone&others.needs == 0 && added&others.takes&(at.standing|others.sets) == 0
}

// hopes tells whether anything is to be tried at all.
func (c course) hopes(at moment) bool {
	return c.reaches(at) && c.suffices(at)
}

// reaches tells whether all steps could come if what is taken stood on.
func (c course) reaches(at moment) bool {
	for ahead := at.done; at.done != c.all(); ahead = at.done {
		for _, s := range c {
			if s.mayCome(at) {
				at.done, at.standing = at.done|s.self, at.standing|s.sets
			}
		}
		if at.done == ahead {
			return false
		}
	}
	return true
}

// suffices tells whether no support is taken more often than it stands or is set.
func (c course) suffices(at moment) bool {
	for k := range api.MaxSupports {
		times := at.standing.count(k)
		for _, s := range c {
			if !at.done.has(s.self) {
				times += s.sets.count(k) - s.takes.count(k)
			}
		}
		if times < 0 {
			return false
		}
	}
	return true
}
