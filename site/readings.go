package site

import "underpin/api"

// ParseReadings returns the readings of a text, or the line that is wrong (P10.1).
func ParseReadings(p api.WatchPlan, text string) (l []api.Entry, line int, e api.Errno) {
	var entries []api.Entry
	line, e = read(text, func(words []string) {
		entries = append(entries, entryOf(p, words))
	})
	if e != api.OK {
		return nil, line, e
	}
	return entries, 0, api.OK
}

// entryOf returns the entry that the words of a line say.
func entryOf(p api.WatchPlan, words []string) api.Entry {
	need(len(words) == 4, api.ErrForm)
	n := numbersOf(words[2:])
	quantity := numberIn(each(p.Quantities, func(q api.Quantity) string { return q.Name }), words[0])
	gauge := numberIn(each(p.Quantities[quantity].Gauges, func(g api.Gauge) string { return g.Name }), words[1])
	return api.Entry{Quantity: quantity, Reading: api.Reading{Gauge: gauge, Time: n[0], Value: n[1]}}
}
