package watch_test

import (
	"fmt"
	"math/rand"
	"regexp"
	"slices"
	"strings"
	"testing"

	"underpin/api"
	"underpin/watch"
)

// TestPrint: P7.1.
func TestPrint(t *testing.T) {
	text, e := watch.Print(examplePlan())
	equal(t, "the example", []any{text, e}, []any{exampleText, api.OK})
	text, e = watch.Print(api.WatchPlan{})
	equal(t, "nothing", []any{text, e}, []any{"", api.OK})
	p := examplePlan()
	p.Alarms = []api.Alarm{{Quantity: 1, Level: -api.MaxValue, Limit: -7, Measure: 2}}
	text, e = watch.Print(p)
	want := exampleText[:strings.Index(exampleText, "alarm")] + "alarm water -1000000000 -7 prop\n"
	equal(t, "another alarm", []any{text, e}, []any{want, api.OK})
}

// lineCases are texts behind the first lines of the example, with the line that is wrong.
var lineCases = []struct {
	ahead int // so many lines of the example
	text  string
	line  int
	want  api.Errno
}{
	{0, "", 0, api.OK},
	{0, "\n", 1, api.ErrForm},
	{0, " ", 1, api.ErrForm},
	{0, "\n" + exampleText, 1, api.ErrForm},
	{12, "\n", 13, api.ErrForm},
	{12, "\n\n", 13, api.ErrForm},
	{12, " ", 13, api.ErrForm},
	{0, "quantity", 1, api.ErrForm},
	{0, "Quantity q 0 0 0 0 0", 1, api.ErrForm},
	{0, "quantity q 0 0 0 0 0", 0, api.OK},
	{0, "quantity q 0 0 0 0", 1, api.ErrForm},
	{0, "quantity q 0 0 0 0 0 0", 1, api.ErrForm},
	{0, " quantity q 0 0 0 0 0", 1, api.ErrForm},
	{0, "quantity q 0 0 0 0 0 ", 1, api.ErrForm},
	{0, "quantity  q 0 0 0 0 0", 1, api.ErrForm},
	{0, "quantity  0 0 0 0 0", 1, api.ErrForm},
	{0, "quantity q 0 0 0 0 0\r", 1, api.ErrForm},
	{0, "quantity\tq 0 0 0 0 0", 1, api.ErrForm},
	{0, "quantity \t\r\xff\x00Q 0 0 0 0 0", 0, api.ErrName},
	{0, "quantity 0 0 0 0 0 0", 0, api.ErrName},
	{0, "quantity quantity 0 0 0 0 0", 0, api.OK},
	{0, "quantity q x 0 0 0 0", 1, api.ErrForm},
	{0, "quantity q 0 +1 0 0 0", 1, api.ErrForm},
	{0, "quantity q -0 0 0 0 0", 1, api.ErrForm},
	{0, "quantity q 0 00 0 0 0", 1, api.ErrForm},
	{0, "quantity q 0 0 01 0 0", 1, api.ErrForm},
	{0, "quantity q 0 0 0 1.0 0", 1, api.ErrForm},
	{0, "quantity q 0 0 0 0 1_0", 1, api.ErrForm},
	{0, "quantity q 0 0 0 0 0x1", 1, api.ErrForm},
	{0, "quantity q - 0 0 0 0", 1, api.ErrForm},
	{0, "quantity q --1 0 0 0 0", 1, api.ErrForm},
	{0, "quantity q -1000000000 1000000000 10000 10000 0", 0, api.OK},
	{0, "quantity q -9999999999 0 0 0 0", 0, api.ErrArg},
	{0, "quantity q -10000000000 0 0 0 0", 1, api.ErrForm},
	{0, "quantity q 0 9999999999 0 0 0", 0, api.ErrArg},
	{0, "quantity q 0 10000000000 0 0 0", 1, api.ErrForm},
	{0, "quantity q 0 99999999999999999999999999 0 0 0", 1, api.ErrForm},
	{0, "quantity q 0 0 0 0 1", 0, api.ErrArg},
	{0, "quantity q 0 0 -1 0 0", 0, api.ErrArg},
	{0, "quantity q 1 0 0 0 0", 0, api.ErrArg},
	{0, strings.Repeat("quantity q 0 0 0 0 0\n", 2), 0, api.ErrTwice},
	{0, strings.Repeat("quantity q 0 0 0 0 0\n", 17), 0, api.ErrLimit},
	{0, "gauge a 0 0 0", 1, api.ErrForm},
	{0, "measure m c 0 0 0", 0, api.OK},
	{0, "alarm q 0 0 m", 1, api.ErrNone},
	{1, "gauge a 0 0 0", 0, api.OK},
	{1, "gauge a 0 0", 2, api.ErrForm},
	{1, "gauge a 0 0 0 0", 2, api.ErrForm},
	{1, "gauge a 0 0 x", 2, api.ErrForm},
	{1, "gauge a x 0 0", 2, api.ErrForm},
	{1, "gauge a -1 0 0", 0, api.ErrArg},
	{1, "gauge \t 0 0 0", 0, api.ErrName},
	{1, "gauge", 2, api.ErrForm},
	{4, "gauge a 0 0 0", 0, api.ErrTwice},
	{4, "\ngauge d 0 0 0", 5, api.ErrForm},
	{4, strings.Repeat("gauge d 0 0 0\n", 6), 0, api.ErrLimit},
	{8, "gauge d 0 0 0", 9, api.ErrForm},
	{8, "quantity d 0 0 0 0 0", 9, api.ErrForm},
	{8, "measure m c 0 0", 9, api.ErrForm},
	{8, "measure m c 0 0 0 0", 9, api.ErrForm},
	{8, "measure m 0 0 0", 9, api.ErrForm},
	{8, "measure m c x 0 0", 9, api.ErrForm},
	{8, "measure m c 0 0 x", 9, api.ErrForm},
	{8, "measure m 1 0 0 0", 0, api.ErrName},
	{8, "measure m gang 2 0 0", 0, api.ErrClash},
	{10, "measure strut gang 2 0 0", 0, api.ErrTwice},
	{11, "quantity d 0 0 0 0 0", 12, api.ErrForm},
	{11, "gauge d 0 0 0", 12, api.ErrForm},
	{11, "measure m c 0 0 0", 12, api.ErrForm},
	{10, "alarm q 0 0", 11, api.ErrForm},
	{10, "alarm q 0 0 strut 0", 11, api.ErrForm},
	{10, "alarm q x 0 strut", 11, api.ErrForm},
	{10, "alarm q 0 x strut", 11, api.ErrForm},
	{10, "alarm none 0 x strut", 11, api.ErrForm},
	{10, "alarm q 0 0 none", 11, api.ErrNone},
	{10, "alarm none 0 0 strut", 11, api.ErrNone},
	{10, "alarm Q 0 0 strut", 11, api.ErrNone},
	{10, "alarm a 0 0 strut", 11, api.ErrNone},
	{10, "alarm q 0 0 gang", 11, api.ErrNone},
	{10, "alarm 0 0 0 0", 11, api.ErrNone},
	{10, "alarm none 0 0 strut\nalarm", 11, api.ErrNone},
	{10, "alarm\nalarm none 0 0 strut", 11, api.ErrForm},
	{10, "alarm q 0 0 later\nmeasure later c 0 0 0", 11, api.ErrNone},
	{11, "alarm none 9999999999 0 strut", 12, api.ErrNone},
	{11, "alarm q 9999999999 0 pump", 0, api.ErrArg},
	{11, "alarm q 0 0 strut", 0, api.ErrTwice},
	{10, "alarms q 0 0 strut", 11, api.ErrForm},
	{10, "q 0 0 strut", 11, api.ErrForm},
}

// TestParse: P7.1, the forms of lines, and where they may stand.
func TestParse(t *testing.T) {
	for _, end := range []string{"", "\n"} {
		p, line, e := watch.Parse(strings.TrimSuffix(exampleText, "\n") + end)
		equal(t, "the example", []any{p, line, e}, []any{examplePlan(), 0, api.OK})
	}
	for _, c := range lineCases {
		text := strings.Join(strings.SplitAfter(exampleText, "\n")[:c.ahead], "") + c.text
		p, line, e := watch.Parse(text)
		equal(t, fmt.Sprintf("%q", text), []any{line, e}, []any{c.line, c.want})
		alone(t, "Parse", e, p)
		if c.text != "" && !strings.HasSuffix(c.text, "\n") {
			_, line, e = watch.Parse(text + "\n")
			equal(t, fmt.Sprintf("%q", text+"\n"), []any{line, e}, []any{c.line, c.want})
		}
	}
}

// TestParseNames: P7.1, of two things with one name the first one is meant; that they are two is Check's error.
func TestParseNames(t *testing.T) {
	p, line, e := watch.Parse("quantity q 0 0 0 0 0\nquantity q 0 0 0 0 0\nmeasure m c 0 0 0\nalarm q 0 0 m\n")
	equal(t, "a quantity twice", []any{said(p), line, e}, []any{said(api.WatchPlan{}), 0, api.ErrTwice})
	p, line, e = watch.Parse("quantity Q 0 0 0 0 0\nmeasure M c 0 0 0\nalarm Q 0 0 M\n")
	equal(t, "no names", []any{said(p), line, e}, []any{said(api.WatchPlan{}), 0, api.ErrName})
	p, line, e = watch.Parse("quantity a 0 0 0 0 0\nquantity q 0 0 0 0 0\nmeasure a c 0 0 0\nmeasure m c 1 0 0\nalarm q -1 -2 m\nalarm a 3 4 a\n")
	equal(t, "two alarms", []any{p.Alarms, line, e}, []any{[]api.Alarm{{Quantity: 1, Level: -1, Limit: -2, Measure: 1}, {Level: 3, Limit: 4}}, 0, api.OK})
}

// TestParseLimit: P7.1, texts of 65536 bytes, and of one more.
func TestParseLimit(t *testing.T) {
	line := "quantity " + strings.Repeat("q", 10) + " 0 0 0 0 0\n"
	text := strings.Repeat(line, api.MaxText/len(line)-1)
	text += "quantity " + strings.Repeat("q", api.MaxText-len(text)-20) + " 0 0 0 0 0\n"
	equal(t, "bytes", len(text), api.MaxText)
	p, at, e := watch.Parse(text)
	equal(t, "65536 bytes", []any{said(p), at, e}, []any{said(api.WatchPlan{}), 0, api.ErrLimit}) // Check's, of the quantities
	p, at, e = watch.Parse("x" + text[1:])
	equal(t, "65536 bytes, and wrong", []any{said(p), at, e}, []any{said(api.WatchPlan{}), 1, api.ErrForm})
	p, at, e = watch.Parse("x" + text)
	equal(t, "65537 bytes, and wrong", []any{said(p), at, e}, []any{said(api.WatchPlan{}), 0, api.ErrLimit})
}

// forms are the forms of lines, each with the letter of where it may stand.
var forms = []struct {
	letter string
	form   *regexp.Regexp
}{
	{"Q", formOf("quantity WORD NUM NUM NUM NUM NUM")},
	{"G", formOf("gauge WORD NUM NUM NUM")},
	{"M", formOf("measure WORD WORD NUM NUM NUM")},
	{"A", formOf("alarm WORD NUM NUM WORD")},
}

// formOf returns the form of a line.
func formOf(words string) *regexp.Regexp {
	return regexp.MustCompile("^" + strings.NewReplacer("WORD", "[^ \n]+", "NUM", "(0|-?[1-9][0-9]{0,9})").Replace(words) + "$")
}

// lineError tells the first line that is wrong, by regular expressions.
func lineError(text string) (int, api.Errno) {
	order := regexp.MustCompile("^(QG*)*M*A*$") // of all lines up to here
	letters := ""
	names := map[string][]string{}
	lines := strings.Split(text, "\n")
	if lines[len(lines)-1] == "" {
		lines = lines[:len(lines)-1]
	}
	for i, line := range lines {
		letter := ""
		for _, f := range forms {
			if f.form.MatchString(line) {
				letter = f.letter
			}
		}
		letters += letter
		if letter == "" || !order.MatchString(letters) {
			return i + 1, api.ErrForm
		}
		words := strings.Split(line, " ")
		if letter == "A" && (!slices.Contains(names["Q"], words[1]) || !slices.Contains(names["M"], words[4])) {
			return i + 1, api.ErrNone
		}
		names[letter] = append(names[letter], words[1])
	}
	return 0, api.OK
}

// randomPlan makes a plan with names of any places.
func randomPlan(r *rand.Rand) api.WatchPlan {
	var p api.WatchPlan
	for _, name := range somewords(r, 3) {
		q := randomQuantity(r)
		q.Name = name
		for i, name := range somewords(r, len(q.Gauges)) {
			q.Gauges[i].Name = name
		}
		p.Quantities = append(p.Quantities, q)
	}
	for i, name := range somewords(r, r.Intn(4)) {
		p.Measures = append(p.Measures, api.Measure{Name: name, Crew: somewords(r, 1)[0], Rank: (i + r.Intn(2)*4) % 7, Lag: r.Intn(4), Takes: r.Intn(6)})
	}
	for measure := range p.Measures {
		if r.Intn(4) > 0 {
			p.Alarms = append(p.Alarms, api.Alarm{Quantity: r.Intn(3), Level: r.Intn(30) - 5, Limit: r.Intn(100) - 20, Measure: measure})
		}
	}
	r.Shuffle(len(p.Alarms), func(i, k int) { p.Alarms[i], p.Alarms[k] = p.Alarms[k], p.Alarms[i] })
	return p
}

// somewords makes names that differ.
func somewords(r *rand.Rand, many int) []string {
	words := []string{"a", "b", "wall", "quantity", "alarm", "end", "x-1", "z9"}
	r.Shuffle(len(words), func(i, k int) { words[i], words[k] = words[k], words[i] })
	return words[:many]
}

// TestParseByForms: P7.1, texts whose lines and words are changed, against regular expressions.
func TestParseByForms(t *testing.T) {
	r := rand.New(rand.NewSource(70))
	words := []string{"quantity", "gauge", "measure", "alarm", "a", "b", "wall", "0", "-1", "", "+1", "01", "-0", "9999999999", "10000000000", "é"}
	counts := map[api.Errno]int{}
	for range 5000 {
		text, e := watch.Print(randomPlan(r))
		equal(t, "Print", e, api.OK)
		lines := strings.SplitAfter(text, "\n")
		for range r.Intn(3) {
			i, k := r.Intn(len(lines)), r.Intn(len(lines))
			switch r.Intn(4) {
			case 0:
				lines[i], lines[k] = lines[k], lines[i]
			case 1:
				lines = slices.Insert(lines, i, lines[k])
			case 2:
				lines = append(slices.Delete(lines, i, i+1), "")
			default:
				w := strings.Split(strings.TrimSuffix(lines[i], "\n"), " ")
				w[r.Intn(len(w))] = words[r.Intn(len(words))]
				lines[i] = strings.Join(w, " ") + "\n"
			}
		}
		text = strings.Join(lines, "")
		line, want := lineError(text)
		p, at, e := watch.Parse(text)
		alone(t, "Parse", e, p)
		if want != api.OK {
			equal(t, fmt.Sprintf("%q", text), []any{at, e}, []any{line, want})
		} else {
			equal(t, fmt.Sprintf("%q", text), []any{at, e == api.ErrForm, e == api.OK && watch.Check(p) != api.OK}, []any{0, false, false})
		}
		counts[e]++
	}
	for _, e := range []api.Errno{api.OK, api.ErrForm, api.ErrNone, api.ErrTwice, api.ErrArg, api.ErrName} {
		if counts[e] < 10 {
			t.Error("too few:", e, counts)
		}
	}
}

// TestTextAndBack: P7.7.
func TestTextAndBack(t *testing.T) {
	r := rand.New(rand.NewSource(71))
	for i := range 500 {
		p := randomPlan(r)
		if i == 0 {
			p = largest()
		}
		text, e := watch.Print(p)
		equal(t, "Print", e, api.OK)
		back, line, e := watch.Parse(text)
		equal(t, "Parse", []any{said(back), line, e, watch.Same(back, p)}, []any{said(p), 0, api.OK, true})
		again, e := watch.Print(back)
		equal(t, "Print", []any{again, e}, []any{text, api.OK})
	}
}

// otherPlans are changes after which the example is another plan.
var otherPlans = []func(p *api.WatchPlan){
	func(p *api.WatchPlan) { p.Quantities = p.Quantities[:1] },
	func(p *api.WatchPlan) { p.Quantities[0], p.Quantities[1] = p.Quantities[1], p.Quantities[0] },
	func(p *api.WatchPlan) { water(p).Name = "wat" },
	func(p *api.WatchPlan) { water(p).Start.Low = 0 },
	func(p *api.WatchPlan) { water(p).Start.High = 0 },
	func(p *api.WatchPlan) { water(p).Rise = -1 },
	func(p *api.WatchPlan) { water(p).Fall = -1 },
	func(p *api.WatchPlan) { water(p).Bad = 1 },
	func(p *api.WatchPlan) { water(p).Gauges = water(p).Gauges[:1] },
	func(p *api.WatchPlan) { water(p).Gauges = nil },
	func(p *api.WatchPlan) { second(p).Name = "" },
	func(p *api.WatchPlan) { second(p).Acc = 1 },
	func(p *api.WatchPlan) { second(p).Drift = 1 },
	func(p *api.WatchPlan) { second(p).Since = 1 },
	func(p *api.WatchPlan) { p.Measures = p.Measures[:2] },
	func(p *api.WatchPlan) { p.Measures = append(p.Measures, api.Measure{}) },
	func(p *api.WatchPlan) { pump(p).Name = "" },
	func(p *api.WatchPlan) { pump(p).Crew = "" },
	func(p *api.WatchPlan) { pump(p).Rank = 0 },
	func(p *api.WatchPlan) { pump(p).Lag = 0 },
	func(p *api.WatchPlan) { pump(p).Takes = 0 },
	func(p *api.WatchPlan) { p.Alarms = nil },
	func(p *api.WatchPlan) { alarm(p).Quantity = 0 },
	func(p *api.WatchPlan) { alarm(p).Level = 0 },
	func(p *api.WatchPlan) { alarm(p).Limit = 0 },
	func(p *api.WatchPlan) { alarm(p).Measure = 9 },
}

// TestSame: P7.1.
func TestSame(t *testing.T) {
	equal(t, "the example", watch.Same(examplePlan(), examplePlan()), true)
	for i, change := range otherPlans {
		p, q := examplePlan(), examplePlan()
		change(&p)
		change(&q)
		what := fmt.Sprint("the change ", i)
		equal(t, what, []bool{watch.Same(p, examplePlan()), watch.Same(examplePlan(), p), watch.Same(p, q)}, []bool{false, false, true})
	}
	empty := api.WatchPlan{Quantities: []api.Quantity{}, Measures: []api.Measure{}, Alarms: []api.Alarm{}}
	equal(t, "nothing", []bool{watch.Same(empty, api.WatchPlan{}), watch.Same(api.WatchPlan{}, empty)}, []bool{true, true})
	one := api.WatchPlan{Quantities: []api.Quantity{{Gauges: []api.Gauge{}}}}
	equal(t, "no gauges", watch.Same(one, api.WatchPlan{Quantities: make([]api.Quantity, 1)}), true)
}
