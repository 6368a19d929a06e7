package watch

import (
	"slices"

	"underpin/api"
)

// Check returns the first error of a plan (P7.1).
func Check(p api.WatchPlan) api.Errno {
	if e := checkList(p.Quantities, api.MaxQuantities, checkQuantity); e != api.OK {
		return e
	}
	if e := checkList(p.Measures, api.MaxMeasures, checkMeasure); e != api.OK {
		return e
	}
	return checkList(p.Alarms, api.MaxAlarms, func(ahead []api.Alarm, a api.Alarm) api.Errno {
		return checkAlarm(p, ahead, a)
	})
}

// checkList returns ErrLimit if a list has more than so many elements, or the error of its first element that has one.
// check is given the elements ahead of that, too.
func checkList[T any](list []T, most int, check func(ahead []T, x T) api.Errno) api.Errno {
	if len(list) > most {
		return api.ErrLimit
	}
	for i, x := range list {
		if e := check(list[:i], x); e != api.OK {
			return e
		}
	}
	return api.OK
}

// checkQuantity returns the error of a quantity behind others.
func checkQuantity(ahead []api.Quantity, q api.Quantity) api.Errno {
	switch {
	case !isName(q.Name):
		return api.ErrName
	case slices.ContainsFunc(ahead, func(other api.Quantity) bool { return other.Name == q.Name }):
		return api.ErrTwice
	case !isValue(q.Start.Low), !isValue(q.Start.High), q.Start.Low > q.Start.High:
		return api.ErrArg
	case !isUpTo(q.Rise, api.MaxRate), !isUpTo(q.Fall, api.MaxRate):
		return api.ErrArg
	case len(q.Gauges) > api.MaxGauges:
		return api.ErrLimit
	case !isUpTo(q.Bad, len(q.Gauges)):
		return api.ErrArg
	}
	return checkList(q.Gauges, api.MaxGauges, checkGauge)
}

// checkGauge returns the error of a gauge behind others of its quantity.
func checkGauge(ahead []api.Gauge, g api.Gauge) api.Errno {
	switch {
	case !isName(g.Name):
		return api.ErrName
	case slices.ContainsFunc(ahead, func(other api.Gauge) bool { return other.Name == g.Name }):
		return api.ErrTwice
	case !isExact(g):
		return api.ErrArg
	}
	return api.OK
}

// checkMeasure returns the error of a measure behind others.
func checkMeasure(ahead []api.Measure, m api.Measure) api.Errno {
	switch {
	case !isName(m.Name), !isName(m.Crew):
		return api.ErrName
	case slices.ContainsFunc(ahead, func(other api.Measure) bool { return other.Name == m.Name }):
		return api.ErrTwice
	case !isTime(m.Rank), !isTime(m.Lag), !isTime(m.Takes):
		return api.ErrArg
	case slices.ContainsFunc(ahead, func(other api.Measure) bool { return other.Crew == m.Crew && other.Rank == m.Rank }):
		return api.ErrClash
	}
	return api.OK
}

// checkAlarm returns the error of an alarm behind others; the quantities and measures of its plan have none.
func checkAlarm(p api.WatchPlan, ahead []api.Alarm, a api.Alarm) api.Errno {
	switch {
	case !isIn(a.Quantity, len(p.Quantities)), !isIn(a.Measure, len(p.Measures)):
		return api.ErrNone
	case !isValue(a.Level), !isValue(a.Limit):
		return api.ErrArg
	case slices.ContainsFunc(ahead, func(other api.Alarm) bool { return other.Measure == a.Measure }):
		return api.ErrTwice
	}
	return api.OK
}

// checkReadings returns the error of a quantity, or of its readings.
func checkReadings(q api.Quantity, l []api.Reading) api.Errno {
	if e := checkQuantity(nil, q); e != api.OK {
		return e
	}
	return checkList(l, api.MaxReadings, func(_ []api.Reading, r api.Reading) api.Errno {
		return checkReading(q, r)
	})
}

// checkReading returns the error of a reading.
func checkReading(q api.Quantity, r api.Reading) api.Errno {
	switch {
	case !isIn(r.Gauge, len(q.Gauges)):
		return api.ErrNone
	case !isTime(r.Time), !isValue(r.Value):
		return api.ErrArg
	}
	return api.OK
}

// checkAsked returns the error of a quantity, of its readings, or of the time that is asked for.
func checkAsked(q api.Quantity, l []api.Reading, t int) api.Errno {
	if e := checkReadings(q, l); e != api.OK {
		return e
	}
	if !isTime(t) {
		return api.ErrArg
	}
	return api.OK
}

// checkRun returns the error with which a plan is not run over a log.
func checkRun(p api.WatchPlan, l []api.Entry, until int) api.Errno {
	if e := Check(p); e != api.OK {
		return e
	}
	e := checkList(l, api.MaxEntries, func(ahead []api.Entry, x api.Entry) api.Errno {
		return checkEntry(p, ahead, x)
	})
	if e != api.OK {
		return e
	}
	if !isTime(until) {
		return api.ErrArg
	}
	read := make([]int, len(p.Quantities))
	for _, x := range l {
		read[x.Quantity]++
		if read[x.Quantity] > api.MaxReadings {
			return api.ErrLimit
		}
	}
	return api.OK
}

// checkEntry returns the error of an entry behind others, which have none.
func checkEntry(p api.WatchPlan, ahead []api.Entry, x api.Entry) api.Errno {
	if !isIn(x.Quantity, len(p.Quantities)) {
		return api.ErrNone
	}
	if e := checkReading(p.Quantities[x.Quantity], x.Reading); e != api.OK {
		return e
	}
	if len(ahead) > 0 && ahead[len(ahead)-1].Reading.Time > x.Reading.Time {
		return api.ErrState
	}
	return api.OK
}

// isExact tells whether a gauge's error is one at each time.
func isExact(g api.Gauge) bool {
	return isUpTo(g.Acc, api.MaxValue) && isUpTo(g.Drift, api.MaxValue) && isTime(g.Since)
}

// isName tells whether a text is a name.
func isName(text string) bool {
	if text == "" || len(text) > api.MaxName {
		return false
	}
	for i := range len(text) {
		letter := text[i] >= 'a' && text[i] <= 'z'
		other := text[i] >= '0' && text[i] <= '9' || text[i] == '-'
		if !letter && (i == 0 || !other) {
			return false
		}
	}
	return true
}

// isValue tells whether a number is a value.
func isValue(x int) bool {
	return x >= -api.MaxValue && x <= api.MaxValue
}

// isTime tells whether a number is a time. Ranks and numbers of minutes keep the same bounds.
func isTime(t int) bool {
	return isUpTo(t, api.MaxTime)
}

// isUpTo tells whether a number is from 0 to a greatest one.
func isUpTo(x, most int) bool {
	return x >= 0 && x <= most
}

// isIn tells whether a list of so many elements has one of a number.
func isIn(number, many int) bool {
	return number >= 0 && number < many
}
