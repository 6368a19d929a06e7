package site

import "underpin/api"

// thing is something that has a name in a site; each kind has a type of its own.
type thing interface {
	// kind returns the word for the kind.
	kind() string
}

// Things of all kinds.
type (
	groundThing   api.Ground
	planThing     api.Excavation
	watchThing    api.WatchPlan
	contractThing api.Contract
	recordThing   []api.Fact
	jobThing      api.Job
	readingsThing []api.Entry
	digThing      api.Dig
)

func (groundThing) kind() string   { return "ground" }
func (planThing) kind() string     { return "plan" }
func (watchThing) kind() string    { return "watch" }
func (contractThing) kind() string { return "contract" }
func (recordThing) kind() string   { return "record" }
func (jobThing) kind() string      { return "job" }
func (readingsThing) kind() string { return "readings" }
func (digThing) kind() string      { return "dig" }

// named is a thing with its name.
type named struct {
	name  string
	thing thing
}

// things are those that a line names, in its order; only of grounds and of records a line names several.
type things struct {
	grounds  []api.Ground
	plan     api.Excavation
	watch    api.WatchPlan
	contract api.Contract
	records  [][]api.Fact
	job      api.Job
	readings []api.Entry
	dig      api.Dig
}

// take takes a thing to the others of its kind.
func (t *things) take(x thing) {
	switch x := x.(type) {
	case groundThing:
		t.grounds = append(t.grounds, api.Ground(x))
	case planThing:
		t.plan = api.Excavation(x)
	case watchThing:
		t.watch = api.WatchPlan(x)
	case contractThing:
		t.contract = api.Contract(x)
	case recordThing:
		t.records = append(t.records, x)
	case jobThing:
		t.job = api.Job(x)
	case readingsThing:
		t.readings = x
	case digThing:
		t.dig = api.Dig(x)
	}
}
