package works

import (
	"slices"

	"underpin/api"
)

// Check returns the first error of a job (P8.1).
func Check(j api.Job) api.Errno {
	if e := checkList(j.Resources, api.MaxResources, checkResource); e != api.OK {
		return e
	}
	e := checkList(j.Tasks, api.MaxTasks, func(ahead []api.Task, t api.Task) api.Errno {
		return checkTask(j, ahead, t)
	})
	if e != api.OK {
		return e
	}
	if len(inOrder(j.Tasks)) < len(j.Tasks) {
		return api.ErrLoop
	}
	return api.OK
}

// CheckLine returns the first error of a line (P8.2).
func CheckLine(l api.Line) api.Errno {
	switch {
	case len(l.Room) > api.MaxStops:
		return api.ErrLimit
	case len(l.Room) == 0, len(l.Run) != len(l.Room)-1:
		return api.ErrArg
	case slices.ContainsFunc(l.Room, func(room int) bool { return !isUpTo(room, api.MaxMany) }):
		return api.ErrArg
	case slices.ContainsFunc(l.Run, func(run int) bool { return run < 1 || run > api.MaxRun }):
		return api.ErrArg
	}
	return api.OK
}

// CheckWay returns the first error of a way (P8.2).
func CheckWay(l api.Line, w []api.Call) api.Errno {
	if e := CheckLine(l); e != api.OK {
		return e
	}
	if len(w) == 0 {
		return api.ErrArg
	}
	return checkList(w, len(w), func(ahead []api.Call, c api.Call) api.Errno {
		return checkCall(l, ahead, c)
	})
}

// CheckTable returns the first error of an air table (P8.3).
func CheckTable(t api.AirTable) api.Errno {
	if e := checkList(t.Rows, api.MaxAirRows, checkAirRow); e != api.OK {
		return e
	}
	if !isTime(t.Rest) || !isTime(t.Day) {
		return api.ErrArg
	}
	return api.OK
}

// checkList returns ErrLimit if a list has more than so many elements, or the error of its first element that has one.
// check is given the elements ahead of that, too.
func checkList[T any](list []T, most int, check func(ahead []T, x T) api.Errno) api.Errno {
	if len(list) > most {
		return api.ErrLimit
	}
	for i, x := range list {
		if e := check(list[:i], x); e != api.OK {
			return e
		}
	}
	return api.OK
}

// checkResource returns the error of a resource behind others.
func checkResource(ahead []api.Resource, r api.Resource) api.Errno {
	switch {
	case !isName(r.Name):
		return api.ErrName
	case slices.ContainsFunc(ahead, func(other api.Resource) bool { return other.Name == r.Name }):
		return api.ErrTwice
	case !isUpTo(r.Many, api.MaxMany):
		return api.ErrArg
	}
	return checkList(r.Off, api.MaxOffs, checkOff)
}

// checkOff returns the error of a span in which a resource is off, behind others.
func checkOff(ahead []api.Span, s api.Span) api.Errno {
	switch {
	case !isTime(s.Low), !isTime(s.High), s.Low > s.High:
		return api.ErrArg
	case len(ahead) > 0 && s.Low <= ahead[len(ahead)-1].High:
		return api.ErrArg
	}
	return api.OK
}

// checkTask returns the error of a task behind others of a job, whose resources have none.
func checkTask(j api.Job, ahead []api.Task, t api.Task) api.Errno {
	switch {
	case !isName(t.Name):
		return api.ErrName
	case slices.ContainsFunc(ahead, func(other api.Task) bool { return other.Name == t.Name }):
		return api.ErrTwice
	case !isTime(t.Takes):
		return api.ErrArg
	}
	e := checkList(t.Needs, len(t.Needs), func(before []int, need int) api.Errno {
		return checkNeed(j, before, need)
	})
	if e != api.OK {
		return e
	}
	return checkList(t.Uses, len(t.Uses), func(before []api.Use, u api.Use) api.Errno {
		return checkUse(j, before, u)
	})
}

// checkNeed returns the error of a need behind others of its task.
func checkNeed(j api.Job, before []int, need int) api.Errno {
	switch {
	case !isIn(need, len(j.Tasks)):
		return api.ErrNone
	case slices.Contains(before, need):
		return api.ErrTwice
	}
	return api.OK
}

// checkUse returns the error of a use behind others of its task.
func checkUse(j api.Job, before []api.Use, u api.Use) api.Errno {
	switch {
	case !isIn(u.Resource, len(j.Resources)):
		return api.ErrNone
	case slices.ContainsFunc(before, func(other api.Use) bool { return other.Resource == u.Resource }):
		return api.ErrTwice
	case u.Many < 1 || u.Many > api.MaxMany:
		return api.ErrArg
	case u.Many > j.Resources[u.Resource].Many:
		return api.ErrScope
	}
	return api.OK
}

// checkStarts returns the error of a job, or of a list of starts.
func checkStarts(j api.Job, starts []int) api.Errno {
	if e := Check(j); e != api.OK {
		return e
	}
	if len(starts) != len(j.Tasks) {
		return api.ErrArg
	}
	return api.OK
}

// checkFailure returns the error with which a resource does not fail.
func checkFailure(j api.Job, starts []int, now, resource, until int) api.Errno {
	if _, e := Length(j, starts); e != api.OK {
		return e
	}
	switch {
	case !isIn(resource, len(j.Resources)):
		return api.ErrNone
	case !isTime(now), !isTime(until), until < now:
		return api.ErrArg
	}
	return api.OK
}

// checkCall returns the error of a call behind others of its way, which have none.
func checkCall(l api.Line, ahead []api.Call, c api.Call) api.Errno {
	switch {
	case !isIn(c.Station, len(l.Room)):
		return api.ErrNone
	case !isTime(c.Arrive), !isTime(c.Leave), c.Leave < c.Arrive:
		return api.ErrArg
	case !follows(l, ahead, c):
		return api.ErrState
	}
	return api.OK
}

// follows tells whether a call follows those ahead of it as a way does.
func follows(l api.Line, ahead []api.Call, c api.Call) bool {
	if len(ahead) == 0 {
		return true
	}
	last := ahead[len(ahead)-1]
	step := c.Station - last.Station
	if step != 1 && step != -1 {
		return false
	}
	if len(ahead) > 1 && step != last.Station-ahead[len(ahead)-2].Station {
		return false
	}
	return c.Arrive == last.Leave+l.Run[section(last, c)]
}

// checkTimetable returns the error of a line or of a timetable.
func checkTimetable(l api.Line, table [][]api.Call) api.Errno {
	if e := CheckLine(l); e != api.OK {
		return e
	}
	return checkList(table, api.MaxTrains, func(_ [][]api.Call, w []api.Call) api.Errno {
		return CheckWay(l, w)
	})
}

// checkInsert returns the error with which a train gets no way.
func checkInsert(l api.Line, table [][]api.Call, t api.Train) api.Errno {
	free, e := Free(l, table)
	switch {
	case e != api.OK:
		return e
	case !free:
		return api.ErrState
	case !isIn(t.From, len(l.Room)), !isIn(t.To, len(l.Room)):
		return api.ErrNone
	case !isTime(t.Ready):
		return api.ErrArg
	case len(table) == api.MaxTrains:
		return api.ErrLimit
	}
	return api.OK
}

// checkAirRow returns the error of a row of an air table.
func checkAirRow(_ []api.AirRow, r api.AirRow) api.Errno {
	if !isTime(r.Pressure) || !isTime(r.Minutes) || !isTime(r.Out) {
		return api.ErrArg
	}
	return api.OK
}

// checkStays returns the error of an air table or of stays.
func checkStays(t api.AirTable, l []api.Dive) api.Errno {
	if e := CheckTable(t); e != api.OK {
		return e
	}
	return checkList(l, api.MaxDives, checkStay)
}

// checkStay returns the error of a stay behind others.
func checkStay(ahead []api.Dive, d api.Dive) api.Errno {
	switch {
	case !isName(d.Worker):
		return api.ErrName
	case !isTime(d.Pressure), !isTime(d.In), !isTime(d.Leave), !isTime(d.Out):
		return api.ErrArg
	case len(ahead) > 0 && ahead[len(ahead)-1].In > d.In:
		return api.ErrState
	}
	return api.OK
}

// checkNext returns the error with which no stay is searched for.
func checkNext(t api.AirTable, l []api.Dive, worker string, pressure, minutes, ready int) api.Errno {
	faults, e := Faults(t, l)
	switch {
	case e != api.OK:
		return e
	case slices.ContainsFunc(faults, func(f api.AirFault) bool { return f != api.AfNone }):
		return api.ErrState
	case !isName(worker):
		return api.ErrName
	case !isTime(pressure), !isTime(minutes), !isTime(ready), minutes == 0:
		return api.ErrArg
	}
	return api.OK
}

// isName tells whether a text is a name.
func isName(text string) bool {
	if text == "" || len(text) > api.MaxName {
		return false
	}
	for i := range len(text) {
		letter := text[i] >= 'a' && text[i] <= 'z'
		other := text[i] >= '0' && text[i] <= '9' || text[i] == '-'
		if !letter && (i == 0 || !other) {
			return false
		}
	}
	return true
}

// isOrder tells whether a list has each number below n just once.
func isOrder(order []int, n int) bool {
	if len(order) != n {
		return false
	}
	seen := make([]bool, n)
	for _, x := range order {
		if !isIn(x, n) || seen[x] {
			return false
		}
		seen[x] = true
	}
	return true
}

// isTime tells whether a number is a time. Numbers of minutes and pressures keep the same bounds.
func isTime(t int) bool {
	return isUpTo(t, api.MaxTime)
}

// isUpTo tells whether a number is from 0 to a greatest one.
func isUpTo(x, most int) bool {
	return x >= 0 && x <= most
}

// isIn tells whether a list of so many elements has one of a number.
func isIn(number, many int) bool {
	return number >= 0 && number < many
}
