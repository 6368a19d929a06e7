package settle

import (
	"iter"
	"slices"

	"underpin/api"
)

// pressuresOf tells the pressures of a bed: those at the beginning, then those after each of so many steps.
func pressuresOf(b api.Bed, steps int) iter.Seq[[]api.Frac] {
	return func(yield func([]api.Frac) bool) {
		pressures := slices.Clone(b.Slices)
		for step := 0; yield(pressures) && step < steps; step++ {
			pressures = drained(b, loaded(b, step, pressures))
		}
	}
}

// after returns the pressures of a bed after so many steps.
func after(b api.Bed, steps int) []api.Frac {
	var last []api.Frac
	for pressures := range pressuresOf(b, steps) {
		last = pressures
	}
	return last
}

// loaded returns pressures with the loads of a step.
func loaded(b api.Bed, step int, pressures []api.Frac) []api.Frac {
	out := slices.Clone(pressures)
	for _, load := range b.Adds {
		if load.Step != step {
			continue
		}
		for i, own := range out {
			out[i] = total([]api.Frac{own}, []api.Frac{load.Pressure})
		}
	}
	return out
}

// drained returns the pressures that a step makes of pressures. Numbers become long with the steps, so that all slices
// are worked on at a time.
func drained(b api.Bed, pressures []api.Frac) []api.Frac {
	type found struct {
		slice    int
		pressure api.Frac
	}
	done := make(chan found)
	for i := range pressures {
		go func() { done <- found{i, drainedAt(b, pressures, i)} }()
	}
	out := make([]api.Frac, len(pressures))
	for range pressures {
		one := <-done
		out[one.slice] = one.pressure
	}
	return out
}

// drainedAt returns the pressure that a step makes in a slice.
func drainedAt(b api.Bed, pressures []api.Frac, i int) api.Frac {
	own, above, below := pressures[i], api.Frac("0"), api.Frac("0")
	if i > 0 {
		above = pressures[i-1]
	}
	if last := len(pressures) - 1; i < last {
		below = pressures[i+1]
	} else if !b.Below {
		below = own
	}
	return total([]api.Frac{own}, []api.Frac{b.Rate, above}, []api.Frac{b.Rate, below}, []api.Frac{"-2", b.Rate, own})
}

// settlement returns the settlement of a bed after so many steps, at which these pressures are left.
func settlement(b api.Bed, steps int, left []api.Frac) api.Frac {
	var parts [][]api.Frac
	for i := range left {
		parts = append(parts, []api.Frac{b.Soft, b.Slices[i]}, []api.Frac{"-1", b.Soft, left[i]})
	}
	for _, load := range b.Adds {
		if load.Step < steps {
			parts = append(parts, []api.Frac{b.Soft, load.Pressure, whole(len(left))})
		}
	}
	return total(parts...)
}
