package water

import (
	"slices"

	"underpin/api"
)

// width is how many numbers an equation has room for: a factor of each unknown, and right sides.
const width = 2*api.MaxNodes + 1

// number is what equations consist of.
type number[T any] interface {
	less(y T) T
	times(y T) T
	over(y T) T
	isZero() bool
}

// solve solves equations with as many unknowns as there are equations, and right sides behind the factors. It leaves the
// values of an unknown in place of the right sides of the equation with its number. There the factor of that unknown
// must not become 0 on the way. In a net it does not: what is left without a node are the equations of a lesser net, in
// which still each node is joined to a fixed head.
func solve[T number[T]](equations [][width]T, sides int) {
	n := len(equations)
	var order, rest []int
	for k := range n {
		rest = append(rest, k)
	}
	for len(rest) > 0 {
		at := shortest(equations, rest)
		k := rest[at]
		order, rest = append(order, k), slices.Delete(rest, at, at+1)
		for _, i := range rest {
			takeOff(equations[i][:n+sides], equations[k][:n+sides], k)
		}
	}
	for at, k := range slices.Backward(order) {
		insert(equations, order[:at], k, sides)
	}
}

// shortest returns the place in rest of the first equation that has the fewest unknowns: the fewer, the less is spoilt
// of the others, which are short too.
func shortest[T number[T]](equations [][width]T, rest []int) int {
	best, fewest := 0, len(equations)+1
	for at, k := range rest {
		unknowns := 0
		for _, factor := range equations[k][:len(equations)] {
			if !factor.isZero() {
				unknowns++
			}
		}
		if unknowns < fewest {
			best, fewest = at, unknowns
		}
	}
	return best
}

// takeOff takes the unknown k out of an equation by means of the equation of k.
func takeOff[T number[T]](equation, ofK []T, k int) {
	if equation[k].isZero() {
		return
	}
	times := equation[k].over(ofK[k])
	for i, x := range ofK {
		if !x.isZero() {
			equation[i] = equation[i].less(times.times(x))
		}
	}
}

// insert leaves the values of the unknown k at its equation, in which no other one is left, and inserts them into others.
func insert[T number[T]](equations [][width]T, others []int, k, sides int) {
	n := len(equations)
	for s := n; s < n+sides; s++ {
		value := equations[k][s].over(equations[k][k])
		equations[k][s] = value
		for _, i := range others {
			if factor := equations[i][k]; !factor.isZero() && !value.isZero() {
				equations[i][s] = equations[i][s].less(factor.times(value))
			}
		}
	}
}
