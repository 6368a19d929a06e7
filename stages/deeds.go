package stages

import (
	"errors"
	"slices"
	"strconv"

	"underpin/api"
	"underpin/exact"
	"underpin/ground"
)

// fault is the error with which a deed is left.
type fault struct{ code api.Errno }

// Error says the error's number.
func (f fault) Error() string {
	return "error " + strconv.Itoa(int(f.code))
}

// must leaves a deed with an error, unless that is OK.
func must(e api.Errno) {
	if e != api.OK {
		panic(fault{e})
	}
}

// need leaves a deed with an error, unless something is as it must be.
func need(is bool, e api.Errno) {
	if !is {
		must(e)
	}
}

// after returns a dig, which has no error, after a deed, or the deed's error.
func after(d api.Dig, x api.Deed) (out api.Dig, e api.Errno) {
	defer func() {
		if err, left := recover().(error); left {
			out, e = api.Dig{}, codeOf(err)
		}
	}()
	do, listed := deeds()[x.Kind]
	need(listed, api.ErrArg)
	w := work(copied(d))
	do(&w, x)
	return api.Dig(w), api.OK
}

// codeOf returns the code of the error with which a deed was left.
func codeOf(err error) api.Errno {
	var f fault
	if errors.As(err, &f) {
		return f.code
	}
	return api.ErrState // nothing else leaves a deed; if it did, nothing would be done
}

// work is a dig on which a deed is done. It has memory of its own.
type work api.Dig

// deeds returns what does a deed of each kind.
func deeds() map[api.DeedKind]func(*work, api.Deed) {
	return map[api.DeedKind]func(*work, api.Deed){
		api.DeObserve: (*work).observe,
		api.DeRetract: (*work).retract,
		api.DeVerify:  (*work).verify,
		api.DeProve:   (*work).prove,
		api.DeBegin:   (*work).begin,
		api.DeDone:    (*work).done,
	}
}

// observe adds a statement to the ground. Proofs go on without its rows, which stand behind all others.
func (w *work) observe(x api.Deed) {
	ahead := len(w.rows())
	g, e := ground.Add(w.Ground, x.Saying)
	must(e)
	w.Ground = g
	more := slices.Repeat([]api.Frac{"0"}, len(w.rows())-ahead)
	for _, m := range w.Marks {
		for i, weights := range m.Proofs {
			m.Proofs[i] = slices.Concat(weights, more)
		}
	}
}

// retract takes a statement out of the ground, and proofs that rest on it out of the dig.
func (w *work) retract(x api.Deed) {
	owners, e := ground.Owners(w.Ground)
	must(e)
	g, e := ground.Drop(w.Ground, x.Name)
	must(e)
	number := slices.IndexFunc(w.Ground.Sayings, func(s api.Saying) bool { return s.Name == x.Name })
	for i := range w.Marks {
		m := &w.Marks[i]
		if restOn(m.Proofs, owners, number) {
			lose(m)
		}
		for k, weights := range m.Proofs {
			m.Proofs[k] = without(weights, owners, number)
		}
	}
	w.Ground = g
}

// restOn tells whether proofs give weight to a row of an owner.
func restOn(proofs [][]api.Frac, owners []int, owner int) bool {
	for _, weights := range proofs {
		for row, weight := range weights {
			if owners[row] == owner && weight != "0" {
				return true
			}
		}
	}
	return false
}

// without returns the weights of the rows of all other owners.
func without(weights []api.Frac, owners []int, owner int) []api.Frac {
	var out []api.Frac
	for row, weight := range weights {
		if owners[row] != owner {
			out = append(out, weight)
		}
	}
	return out
}

// lose takes the proofs of a stage away.
func lose(m *api.StageMark) {
	m.Proofs = nil
	if m.State == api.SgVerified {
		m.State = api.SgWaiting
	} else {
		m.Shaken = true
	}
}

// gain gives a stage its proofs.
func gain(m *api.StageMark, proofs [][]api.Frac) {
	m.Proofs, m.Shaken = proofs, false
	if m.State == api.SgWaiting {
		m.State = api.SgVerified
	}
}

// verify finds proofs for a stage.
func (w *work) verify(x api.Deed) {
	m := w.unproved(x.Stage)
	rows := w.rows()
	var proofs [][]api.Frac
	for _, demand := range w.Plan.Stages[x.Stage].Demands {
		implied, weights, _, e := exact.Implied(rows, demand)
		must(e)
		need(implied, api.ErrSum)
		proofs = append(proofs, weights)
	}
	gain(m, proofs)
}

// prove takes proofs that were found elsewhere.
func (w *work) prove(x api.Deed) {
	m := w.unproved(x.Stage)
	must(checkProofs(w.rows(), w.Plan.Stages[x.Stage].Demands, x.Proofs))
	gain(m, copiedProofs(x.Proofs))
}

// begin begins a stage.
func (w *work) begin(x api.Deed) {
	m := w.mark(x.Stage)
	need(m.State == api.SgVerified, api.ErrState)
	must(checkModels(w.Ground))
	must(checkBegin(api.Dig(*w), x.Stage))
	m.State = api.SgBegun
	w.stand(w.Plan.Stages[x.Stage].Takes, false)
}

// done ends a stage.
func (w *work) done(x api.Deed) {
	m := w.mark(x.Stage)
	need(m.State == api.SgBegun, api.ErrState)
	m.State = api.SgDone
	w.stand(w.Plan.Stages[x.Stage].Sets, true)
}

// mark returns the mark of a stage: ErrNone if there is no such stage.
func (w *work) mark(stage int) *api.StageMark {
	need(below(len(w.Marks))(stage), api.ErrNone)
	return &w.Marks[stage]
}

// unproved returns the mark of a stage that may be proved: ErrState if it is neither waiting nor shaken, ErrClash if no
// model is allowed, of which anything might be proved.
func (w *work) unproved(stage int) *api.StageMark {
	m := w.mark(stage)
	need(isUnproved(*m), api.ErrState)
	must(checkModels(w.Ground))
	return m
}

// rows returns the rows of the ground.
func (w *work) rows() []api.Row {
	rows, e := ground.Rows(w.Ground)
	must(e)
	return rows
}

// stand sets supports, or takes them away.
func (w *work) stand(supports []int, stands bool) {
	for _, k := range supports {
		w.Standing[k] = stands
	}
}
