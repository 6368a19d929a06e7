package settle

import "underpin/api"

// ends are the least and the greatest of a number that is not known exactly.
type ends [2]api.Frac

// Which one of both ends.
const (
	lower = iota
	upper
)

// trough tells the share of an excavation, or a pad, at a place.
type trough func(place int) api.Frac

// troughOf returns the trough around a middle.
func troughOf(middle, half int) trough {
	return func(place int) api.Frac {
		distance := max(place-middle, middle-place)
		if distance > half {
			return "0"
		}
		return quotient(whole(half-distance), whole(half*half))
	}
}

// tilting returns by how much a building tilts for each unit of what makes the trough.
func (share trough) tilting(h api.House) api.Frac {
	rise := total([]api.Frac{share(h.To)}, []api.Frac{"-1", share(h.From)})
	return quotient(rise, whole(h.To-h.From))
}

// extent returns the ends of a sum, over excavations, of what is asked of the trough of each one, times the ground that
// is lost there. Grounds are lost independently, so that each end has an end of each of them.
func extent(cuts []api.Cut, asked func(trough) api.Frac) ends {
	var parts [2][][]api.Frac
	for _, c := range cuts {
		times, lost := asked(troughOf(c.X, c.Half)), ends{c.Low, c.High}
		if isLess(times, "0") {
			lost = ends{c.High, c.Low}
		}
		for end := range parts {
			parts[end] = append(parts[end], []api.Frac{times, lost[end]})
		}
	}
	return ends{total(parts[lower]...), total(parts[upper]...)}
}

// tiltOf returns the ends of the tilt of a building.
func tiltOf(r api.Route, house int) ends {
	return extent(r.Cuts, func(share trough) api.Frac { return share.tilting(r.Houses[house]) })
}

// size returns the ends of the size of a number.
func (e ends) size() ends {
	minusLeast, minusGreatest := product("-1", e[lower]), product("-1", e[upper])
	return ends{greater("0", greater(e[lower], minusGreatest)), greater(e[upper], minusLeast)}
}

// classes returns the least and the greatest class of a tilt.
func classes(limits []api.Frac, tilt ends) (lowest, highest int) {
	size := tilt.size()
	return classOf(limits, size[lower]), classOf(limits, size[upper])
}

// classOf returns the class of a size.
func classOf(limits []api.Frac, size api.Frac) int {
	class := 0
	for _, limit := range limits {
		if isLess(limit, size) {
			class++
		}
	}
	return class
}
