package works

import (
	"slices"

	"underpin/api"
)

// dayMinutes is how many minutes a day has.
const dayMinutes = 1440

// rowFor returns the first row of an air table that counts for a pressure and so many minutes; false if there is none.
func rowFor(t api.AirTable, pressure, minutes int) (api.AirRow, bool) {
	i := slices.IndexFunc(t.Rows, func(r api.AirRow) bool { return r.Pressure >= pressure && r.Minutes >= minutes })
	if i < 0 {
		return api.AirRow{}, false
	}
	return t.Rows[i], true
}

// staysOf returns the stays of a worker.
func staysOf(l []api.Dive, worker string) []api.Dive {
	var own []api.Dive
	for _, d := range l {
		if d.Worker == worker {
			own = append(own, d)
		}
	}
	return own
}

// stay is a stay, with what its rules ask for.
type stay struct {
	table api.AirTable
	ahead []api.Dive // the stays of the same worker ahead of it
	api.Dive
}

// fault returns the first rule that a stay breaks.
func (s stay) fault() api.AirFault {
	// in the order of the faults, of which the first one is none
	rules := []func(stay) bool{stay.isInOrder, stay.isCounted, stay.isSlowEnough, stay.isRested, stay.isShortEnough}
	for i, keeps := range rules {
		if !keeps(s) {
			return api.AirFault(i + 1)
		}
	}
	return api.AfNone
}

// isInOrder tells whether the times of a stay are in order.
func (s stay) isInOrder() bool {
	return s.In < s.Leave && s.Leave <= s.Out
}

// isCounted tells whether a row counts.
func (s stay) isCounted() bool {
	_, counts := s.row()
	return counts
}

// isSlowEnough tells whether the way out takes as long as it needs to.
func (s stay) isSlowEnough() bool {
	row, _ := s.row()
	return s.Out-s.Leave >= row.Out
}

// isRested tells whether the worker had a rest ahead of a stay.
func (s stay) isRested() bool {
	return len(s.ahead) == 0 || s.In-s.ahead[len(s.ahead)-1].Out >= s.table.Rest
}

// isShortEnough tells whether the worker was not under pressure for too long, in the day up to the end of a stay.
func (s stay) isShortEnough() bool {
	sum := s.inDay(s.Dive)
	for _, d := range s.ahead {
		sum += s.inDay(d)
	}
	return sum <= s.table.Day
}

// inDay returns how many minutes of a stay are in the day up to the end of this one.
func (s stay) inDay(d api.Dive) int {
	return max(0, min(d.Leave, s.Leave)-max(d.In, s.Leave-dayMinutes))
}

// row returns the row of a stay; false if none counts.
func (s stay) row() (api.AirRow, bool) {
	return rowFor(s.table, s.Pressure, s.Leave-s.In)
}
