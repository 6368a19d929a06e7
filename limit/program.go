package limit

import (
	"sync"

	"underpin/api"
	"underpin/exact"
)

// program is a linear program.
type program struct {
	rows []api.Row
	goal []api.Term
}

// atMost adds a row: a sum is at most 0.
func (p *program) atMost(s sum) {
	p.rows = append(p.rows, s.atMostZero())
}

// equal adds two rows: a sum is 0.
func (p *program) equal(s sum) {
	p.atMost(s)
	p.atMost(s.opposite())
}

// check returns the error of the program. It is of the form of package exact, so that it can only have numbers that are
// too long.
func (p program) check() api.Errno {
	if e := exact.Check(p.rows); e != api.OK {
		return e
	}
	_, e := exact.Sum(p.goal, nil)
	return e
}

// solveBoth solves two programs at a time.
func solveBoth(programs [2]program) (answers [2]api.Answer, e api.Errno) {
	var errors [2]api.Errno
	var busy sync.WaitGroup
	for i, p := range programs {
		busy.Add(1)
		go func() {
			defer busy.Done()
			answers[i], errors[i] = exact.Solve(p.rows, p.goal)
		}()
	}
	busy.Wait()
	for _, e := range errors {
		if e != api.OK {
			return [2]api.Answer{}, e
		}
	}
	return answers, api.OK
}
