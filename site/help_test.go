package site_test

import (
	"fmt"
	"reflect"
	"slices"
	"strings"
	"testing"

	"underpin/api"
	"underpin/claims"
	"underpin/exact"
	"underpin/ground"
	"underpin/site"
	"underpin/watch"
)

// Texts of things, one of each kind.
const (
	groundText   = "stations 0 10\ndepth 20\nlayer fill\nlayer clay\nlayer rock\ntop bh 0 clay 3 4\n"
	otherText    = "stations 0 10\ndepth 20\nlayer fill\nlayer clay\nlayer rock\ntop bh 0 clay 3 5\ntop cs 5 rock 8 9\n"
	clashText    = groundText + "top deep 0 clay 7 9\n"
	planText     = "support wall\nstage pit\nsets wall\ndemand 1 b-1-0 <= 5\nstage floor\nafter pit\nrests wall\ntakes wall\ndemand 1 b-1-0 <= 4\n"
	watchText    = "quantity sink 0 0 2 1 1\ngauge a 1 0 0\ngauge b 1 0 0\ngauge c 1 0 0\nmeasure strut gang 1 5 30\nmeasure prop gang 2 0 0\nalarm sink 20 100 strut\nalarm sink 15 16 prop\n"
	readingsText = "sink a 5 9\nsink b 5 0\nsink c 5 0\n"
	contractText = "base clay 10\nprice clay 3\nclause ground 60 50 1000\nwhen (< (base clay) (sum met clay))\npay (* (price clay) (- (sum met clay) (base clay)))\nclause late 0 100 7\nwhen (<= 50 (now))\npay (count met clay)\n"
	recordText   = "5 met clay ann 8\n9 met clay ann 8\n30 notice ground ann 0\n"
	halfText     = "5 met clay ann 8\n30 notice ground ann 0\n"
	factText     = "9 met clay ann 8\n"
	jobText      = "resource rig 1 5 6\ntask drill 4\nuses rig 1\ntask blast 1\nneeds drill\ntask muck 3\nneeds blast\nuses rig 1\n"
)

// block is the text of a block.
func block(head, text string) string {
	return "make " + head + "\n" + text + "end"
}

// blocks are blocks that make a thing of each kind, two of some.
func blocks() []string {
	return []string{
		block("ground g", groundText), block("ground h", otherText), block("ground no", clashText),
		block("plan p", planText), block("watch w", watchText), block("readings r w", readingsText),
		block("contract c", contractText), block("record f", recordText), block("record half", halfText), block("record fact", factText),
		block("job j", jobText),
	}
}

// names are the names of these things, by their kinds.
func names() map[string][]string {
	return map[string][]string{
		"ground": {"g", "h", "no"}, "plan": {"p"}, "watch": {"w"}, "readings": {"r"}, "contract": {"c"},
		"record": {"f", "half", "fact"}, "job": {"j"}, "dig": {"d"},
	}
}

// full is a site with a thing of each kind.
func full(t testing.TB) *site.Site {
	t.Helper()
	s := site.New()
	for _, text := range blocks() {
		does(t, s, text)
	}
	does(t, s, "dig d g p")
	return s
}

// does does a line or a block, and returns its answer.
func does(t testing.TB, s *site.Site, text string) string {
	t.Helper()
	answer, e := s.Do(text)
	if e != api.OK {
		t.Fatalf("Do(%.300q): %d", text, e)
	}
	return answer
}

// answers checks the answer of a line or a block.
func answers(t testing.TB, s *site.Site, text, want string) {
	t.Helper()
	equal(t, text, does(t, s, text), want)
}

// refuses checks that a line or a block has an error, no answer beside it, and changes nothing.
func refuses(t testing.TB, s *site.Site, text string, want api.Errno) {
	t.Helper()
	ahead := all(s)
	answer, e := s.Do(text)
	equal(t, fmt.Sprintf("Do(%.300q)", text), []any{answer, e}, []any{"", want})
	equal(t, "what is left by "+text, all(s), ahead)
}

// all is all that a site tells.
func all(s *site.Site) string {
	text := said(s.Names(), s.Papers())
	for _, name := range s.Names() {
		d, is := s.Dig(name)
		text += said(name, d, is)
	}
	return text
}

// equal fails unless both are equal (nil and empty lists are).
func equal(t testing.TB, what string, got, want any) {
	t.Helper()
	g, w := reflect.ValueOf(got), reflect.ValueOf(want)
	if g.Kind() == reflect.Slice && w.Kind() == reflect.Slice && g.Len() == 0 && w.Len() == 0 {
		return
	}
	if !reflect.DeepEqual(got, want) {
		t.Fatalf("%.3000s: got %.3000s, want %.3000s", what, fmt.Sprint(got), fmt.Sprint(want))
	}
}

// said writes anything: nil and empty lists alike.
func said(l ...any) string {
	return fmt.Sprintf("%q", fmt.Sprintf("%+v", l))
}

// alone fails if there is a result beside an error.
func alone(t testing.TB, what string, e api.Errno, results ...any) {
	t.Helper()
	for _, result := range results {
		if v := reflect.ValueOf(result); e != api.OK && !v.IsZero() && !(v.Kind() == reflect.Slice && v.Len() == 0) {
			t.Fatal(what, "has a result beside the error", e, result)
		}
	}
}

// badNames are no names, and are words.
var badNames = []string{strings.Repeat("g", 17), "gAng", "G", "1g", "-g", "g\x00\xff", "g{", "`g", "g:", "g/", "é", "g\t", "g\r", "g_"}

// badNumbers are no numbers of a text, and are words.
var badNumbers = []string{"x", "+1", "01", "-0", "00", "1.0", "1/2", "1e3", "0x1", "1_0", "-", "--1", "12345678901", "-12345678901", "99999999999999999999999", "\t1", "１"}

// groundOf is the ground of a text.
func groundOf(t testing.TB, text string) api.Ground {
	t.Helper()
	g, line, e := ground.Parse(text)
	equal(t, text, []any{line, e}, []any{0, api.OK})
	return g
}

// planOf is the plan of a text.
func planOf(t testing.TB, text string) api.Excavation {
	t.Helper()
	p, line, e := site.ParsePlan(text)
	equal(t, text, []any{line, e}, []any{0, api.OK})
	return p
}

// jobOf is the job of a text.
func jobOf(t testing.TB, text string) api.Job {
	t.Helper()
	j, line, e := site.ParseJob(text)
	equal(t, text, []any{line, e}, []any{0, api.OK})
	return j
}

// watchOf is the watch plan of a text.
func watchOf(t testing.TB, text string) api.WatchPlan {
	t.Helper()
	p, line, e := watch.Parse(text)
	equal(t, text, []any{line, e}, []any{0, api.OK})
	return p
}

// contractOf is the contract of a text.
func contractOf(t testing.TB, text string) api.Contract {
	t.Helper()
	c, line, e := claims.ParseContract(text)
	equal(t, text, []any{line, e}, []any{0, api.OK})
	return c
}

// recordOf is the record of a text.
func recordOf(t testing.TB, text string) []api.Fact {
	t.Helper()
	l, line, e := claims.Read(text)
	equal(t, text, []any{line, e}, []any{0, api.OK})
	return l
}

// row is the row that a line says.
func row(t testing.TB, line string) api.Row {
	t.Helper()
	l, _, e := exact.Parse(line + "\n")
	equal(t, line, []any{len(l), e}, []any{1, api.OK})
	return l[0]
}

// examplePlan is the plan of the chapters 6 and 10.
func examplePlan() api.Excavation {
	shallow := func(n api.Frac) []api.Row {
		return []api.Row{{Terms: []api.Term{{Name: "b-1-0", Coef: "1"}}, Bound: n}}
	}
	return api.Excavation{
		Supports: []string{"wall"},
		Stages: []api.Stage{
			{Name: "pit", Sets: []int{0}, Demands: shallow("5")},
			{Name: "floor", After: []int{0}, Rests: []int{0}, Takes: []int{0}, Demands: shallow("4")},
		},
	}
}

// exampleJob is the job of chapter 8.
func exampleJob() api.Job {
	rig := []api.Use{{Resource: 0, Many: 1}}
	return api.Job{
		Resources: []api.Resource{{Name: "rig", Many: 1, Off: []api.Span{{Low: 5, High: 6}}}},
		Tasks: []api.Task{
			{Name: "drill", Takes: 4, Uses: rig},
			{Name: "blast", Takes: 1, Needs: []int{0}},
			{Name: "muck", Takes: 3, Needs: []int{1}, Uses: rig},
		},
	}
}

// shares reports whether two values have memory of slices, of maps or behind pointers in common.
func shares(a, b any) bool {
	seen := map[uintptr]bool{}
	found := false
	walk(reflect.ValueOf(a), func(p uintptr) { seen[p] = true })
	walk(reflect.ValueOf(b), func(p uintptr) { found = found || seen[p] })
	return found
}

// sharesItself reports whether two slices of one value have memory in common.
func sharesItself(a any) bool {
	count := map[uintptr]int{}
	walk(reflect.ValueOf(a), func(p uintptr) { count[p]++ })
	for _, n := range count {
		if n > 1 {
			return true
		}
	}
	return false
}

// walk tells the address of each element of each slice of a value.
func walk(v reflect.Value, tell func(p uintptr)) {
	switch v.Kind() {
	case reflect.Slice:
		for i := range v.Len() {
			tell(v.Index(i).Addr().Pointer())
			walkInside(v.Index(i), tell)
		}
	default:
		walkInside(v, tell)
	}
}

// walkInside goes on in the parts of a value.
func walkInside(v reflect.Value, tell func(p uintptr)) {
	switch v.Kind() {
	case reflect.Struct:
		for i := range v.NumField() {
			walk(v.Field(i), tell)
		}
	case reflect.Slice:
		walk(v, tell)
	case reflect.Interface:
		walk(v.Elem(), tell)
	}
}

// spoil changes all that slices of a value have. It is handed a slice, or a pointer.
func spoil(v reflect.Value) {
	switch v.Kind() {
	case reflect.Pointer:
		spoil(v.Elem())
	case reflect.Slice:
		for i := range v.Len() {
			spoil(v.Index(i))
		}
	case reflect.Struct:
		for i := range v.NumField() {
			spoil(v.Field(i))
		}
	case reflect.String:
		v.SetString("spoiled")
	case reflect.Int, reflect.Int64:
		v.SetInt(-99)
	case reflect.Uint8:
		v.SetUint(99)
	case reflect.Bool:
		v.SetBool(!v.Bool())
	}
}

// spoilAll changes all that slices of some values have.
func spoilAll(l ...any) {
	for _, x := range l {
		spoil(reflect.ValueOf(x))
	}
}

// joined are the lines of a text, each with a line feed.
func joined(lines ...string) string {
	if len(lines) == 0 {
		return ""
	}
	return strings.Join(lines, "\n") + "\n"
}

// without is a list without one element.
func without[T any](l []T, i int) []T {
	return slices.Delete(slices.Clone(l), i, i+1)
}

// with is a list with another element in a place.
func with[T any](l []T, i int, x T) []T {
	l = slices.Clone(l)
	l[i] = x
	return l
}

// third hides the type of the first of three results.
func third[T any](x T, line int, e api.Errno) (any, int, api.Errno) {
	return x, line, e
}

// parses checks the line that is wrong in a text, and its error, also with a line feed behind the text, and with another
// line that is wrong behind that.
func parses(t testing.TB, parse func(text string) (any, int, api.Errno), text string, line int, want api.Errno) {
	t.Helper()
	x, at, e := parse(text)
	equal(t, fmt.Sprintf("%.300q", text), []any{at, e}, []any{line, want})
	alone(t, text, e, x)
	if text == "" || strings.HasSuffix(text, "\n") {
		return
	}
	_, at, e = parse(text + "\n")
	equal(t, fmt.Sprintf("%.300q and a line feed", text), []any{at, e}, []any{line, want})
	if want == api.OK {
		line, want = strings.Count(text, "\n")+2, api.ErrForm
	}
	_, at, e = parse(text + "\n?")
	equal(t, fmt.Sprintf("%.300q and another line", text), []any{at, e}, []any{line, want})
}

// rowsOf are the rows of a ground.
func rowsOf(t testing.TB, g api.Ground) []api.Row {
	t.Helper()
	l, e := ground.Rows(g)
	equal(t, "Rows", e, api.OK)
	return l
}
