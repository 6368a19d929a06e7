package works

import (
	"slices"
	"sort"

	"underpin/api"
)

// found returns what a map has for a key; what it does not have yet is reckoned, and kept there.
func found[K comparable, V any](known map[K]V, key K, reckon func(key K) V) V {
	if value, is := known[key]; is {
		return value
	}
	value := reckon(key)
	known[key] = value
	return value
}

// chains is how long chains of tasks take.
type chains struct {
	tasks []api.Task
	known map[int]int // of tasks: how long a chain takes that begins with this one, at most
}

// longest returns how long a chain takes that begins with a task, at most.
func (c chains) longest(task int) int {
	return found(c.known, task, func(task int) int {
		behind := 0
		for other, t := range c.tasks {
			if slices.Contains(t.Needs, task) {
				behind = max(behind, c.longest(other))
			}
		}
		return c.tasks[task].Takes + behind
	})
}

// most returns how long any chain takes, at most.
func (c chains) most() int {
	most := 0
	for task := range c.tasks {
		most = max(most, c.longest(task))
	}
	return most
}

// least returns the least list among the chains that take so many minutes at least; there is one.
func (c chains) least(minutes int) []int {
	var chain []int
	for len(chain) == 0 || minutes > 0 {
		next := 0
		for !c.leads(chain, next, minutes) {
			next++
		}
		chain = append(chain, next)
		minutes -= c.tasks[next].Takes
	}
	return chain
}

// leads tells whether a task goes on with a chain, and so many minutes more can be taken from there on.
func (c chains) leads(chain []int, task, minutes int) bool {
	follows := len(chain) == 0 || slices.Contains(c.tasks[task].Needs, chain[len(chain)-1])
	return follows && c.longest(task) >= minutes
}

// chainProves tells whether a list is a chain that takes so many minutes at least.
func chainProves(j api.Job, chain []int, minutes int) bool {
	sum := 0
	for i, task := range chain {
		if !isIn(task, len(j.Tasks)) || i > 0 && !slices.Contains(j.Tasks[task].Needs, chain[i-1]) {
			return false
		}
		sum += j.Tasks[task].Takes
	}
	return minutes <= sum
}

// workOf returns how much of a resource the tasks use, all minutes and pieces together.
func workOf(j api.Job, resource int) int {
	sum := 0
	for _, t := range j.Tasks {
		for _, u := range t.Uses {
			if u.Resource == resource {
				sum += t.Takes * u.Many
			}
		}
	}
	return sum
}

// roomOf returns how much a resource has in all minutes below one.
func roomOf(r api.Resource, minute int) int {
	minutes := minute
	for _, off := range r.Off {
		minutes -= max(0, min(minute, off.High+1)-off.Low)
	}
	return r.Many * minutes
}

// far is a minute below which each resource has more than tasks can use; what is reckoned up to there cannot be too great.
const far = 1 << 40

// resourceProves tells whether a resource proves that no schedule takes less than so many minutes, one or more.
func resourceProves(j api.Job, resource, minutes int) bool {
	return isIn(resource, len(j.Resources)) && workOf(j, resource) > roomOf(j.Resources[resource], min(minutes-1, far))
}

// mostOf returns how many minutes a resource proves, at most; all that never is over, it proves that there is no schedule.
func mostOf(j api.Job, resource int) int {
	return sort.Search(never, func(minutes int) bool { return !resourceProves(j, resource, minutes+1) })
}
