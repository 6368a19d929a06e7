package site_test

import (
	"fmt"
	"slices"
	"strings"
	"testing"

	"underpin/api"
	"underpin/site"
)

// kindOfLine is a kind of lines: one that can be done in a full site, and what stands in its places: words for kinds of
// things, or NEW, NAME, STAGE, CLAUSE, NUMBER, COEF, WORD.
type kindOfLine struct{ line, places string }

// kindsOfLines are all kinds of lines.
var kindsOfLines = []kindOfLine{
	{"most g 1 b-1-0", "ground COEF WORD"},
	{"most g 1 b-1-0 -2/3 b-2-1", "ground COEF WORD COEF WORD"},
	{"delta g h", "ground ground"},
	{"dig x g p", "NEW ground plan"},
	{"observe d top cut 5 clay 2 3", "dig WORD WORD WORD WORD WORD WORD"},
	{"retract d bh", "dig NAME"},
	{"verify d pit", "dig STAGE"},
	{"start d pit", "dig STAGE"},
	{"finish d pit", "dig STAGE"},
	{"ready d", "dig"},
	{"late w", "watch"},
	{"run w r 60", "watch readings NUMBER"},
	{"schedule j", "job"},
	{"seal f", "record"},
	{"account c f 100", "contract record NUMBER"},
	{"between c half fact 100 ground", "contract record record NUMBER CLAUSE"},
	{"audit", ""},
}

// prepared is a full site in which a line of a kind can be done.
func prepared(t testing.TB, k kindOfLine) *site.Site {
	t.Helper()
	s := full(t)
	if strings.HasPrefix(k.line, "start") || strings.HasPrefix(k.line, "finish") {
		does(t, s, "verify d pit")
	}
	if strings.HasPrefix(k.line, "finish") {
		does(t, s, "start d pit")
	}
	return s
}

// TestLineForms: P10.2, with or without a line feed behind it a line is done; with anything else beside it, it is none.
func TestLineForms(t *testing.T) {
	for _, k := range kindsOfLines {
		s := prepared(t, k)
		for _, text := range []string{k.line + " ", " " + k.line, k.line + "\n\n", "\n" + k.line, k.line + "\n" + k.line, k.line + "\nend", k.line + "\nend\n", k.line + "\n ",
			"#" + k.line, "# " + k.line, strings.ToUpper(k.line[:1]) + k.line[1:], k.line[1:], "make " + k.line, "make " + k.line + "\nend", strings.Replace(k.line, " ", "\t", 1) + "\t"} {
			refuses(t, s, text, api.ErrForm)
		}
		if !strings.HasPrefix(k.line, "most") { // of which the last word may be any one
			refuses(t, s, k.line+"\r", api.ErrForm)
			refuses(t, s, k.line+"\r\n", api.ErrForm)
		}
		if i := strings.Index(k.line, " "); i >= 0 {
			refuses(t, s, k.line[:i]+" "+k.line[i:], api.ErrForm)
			refuses(t, s, k.line[:i]+"\n"+k.line[i+1:], api.ErrForm)
			refuses(t, s, k.line[:i], api.ErrForm)
			refuses(t, s, k.line[:i]+"s"+k.line[i:], api.ErrForm)
		}
		want := does(t, prepared(t, k), k.line)
		answers(t, s, k.line+"\n", want)
	}
	s := full(t)
	for _, text := range []string{"", " ", "\n", "\n\n", "#", "end", "end\n", "make", "make\n", "make\nend", "most", "other g", "audit\x00", strings.Repeat(" ", api.MaxText), strings.Repeat("a", api.MaxText), strings.Repeat("\n", api.MaxText)} {
		refuses(t, s, text, api.ErrForm)
	}
	for _, text := range []string{strings.Repeat("a", api.MaxText+1), "audit" + strings.Repeat("\n", api.MaxText), block("record g", strings.Repeat("5 met clay ann 8\n", 9999))} {
		refuses(t, s, text, api.ErrLimit)
	}
}

// TestPlacesOfLines: P10.2, what stands in the places of lines: ErrForm ahead of ErrNone.
func TestPlacesOfLines(t *testing.T) {
	for _, k := range kindsOfLines {
		s := prepared(t, k)
		words, places := strings.Split(k.line, " "), strings.Fields(k.places)
		equal(t, k.line, len(words), len(places)+1)
		unknown := slices.Clone(words) // no thing of the line is there
		for i, place := range places {
			if place != strings.ToUpper(place) {
				unknown[i+1] = "zzz"
			}
		}
		for i, place := range places {
			for _, bad := range wrongWords(place) {
				refuses(t, s, list(with(words, i+1, bad)), api.ErrForm)
				refuses(t, s, list(with(unknown, i+1, bad)), api.ErrForm)
			}
		}
		if words[0] != "observe" { // a statement may be of any words as long as it is not asked for the dig
			for i := range words {
				refuses(t, s, list(without(words, i)), api.ErrForm)
				refuses(t, s, list(without(unknown, i)), api.ErrForm)
				refuses(t, s, list(slices.Insert(slices.Clone(words), i+1, words[i])), api.ErrForm)
			}
		}
		for i, place := range places {
			for _, other := range wrongThings(place) {
				refuses(t, s, list(with(words, i+1, other)), api.ErrNone)
			}
		}
		does(t, s, k.line)
	}
	s := full(t)
	refuses(t, s, "observe zzz", api.ErrForm)
	refuses(t, s, "observe zzz x", api.ErrNone)
	refuses(t, s, "observe zzz top cut 5 clay 2", api.ErrNone)
	refuses(t, s, "observe zzz top cut  5", api.ErrForm)
	refuses(t, s, "observe d", api.ErrForm)
	refuses(t, s, "observe D x", api.ErrForm)
	refuses(t, s, "most g", api.ErrForm)
	refuses(t, s, "most zzz 1", api.ErrForm)
	refuses(t, s, "most zzz 1 X", api.ErrNone)
}

// list are words with a blank between two of them.
func list(words []string) string {
	return strings.Join(words, " ")
}

// wrongWords are words that may not stand in a place, nor an empty word.
func wrongWords(place string) []string {
	switch place {
	case "WORD":
		return []string{""}
	case "NUMBER":
		return append([]string{""}, badNumbers...)
	case "COEF":
		return []string{"", "x", "+1", "01", "-0", "2/4", "1/1", "1/0", "1.5", "1/-2", "1e3", " ", strings.Repeat("7", api.MaxDigits+1)}
	}
	return append([]string{""}, badNames...)
}

// wrongThings are names of things that may not stand in a place, and names of no things.
func wrongThings(place string) []string {
	switch place {
	case "STAGE":
		return []string{"wall", "d", "p", "zzz", "pi", "pitt"}
	case "CLAUSE":
		return []string{"c", "clay", "zzz", "groun"}
	}
	if place == strings.ToUpper(place) {
		return nil
	}
	out := []string{"zzz", "pit", "bh"}
	for kind, l := range names() {
		if kind != place {
			out = append(out, l...)
		}
	}
	return out
}

// TestBlockForms: P10.2, what is a block, and what is none.
func TestBlockForms(t *testing.T) {
	s := full(t)
	for _, text := range []string{
		"make", "make record", "make record x", "make record x\n", "make record x\n\n", "make record x\nend ", "make record x\n end", "make record x\nEnd", "make record x\nends",
		"make record x\nend\nend", "make record x\nend\nend\n", "make record x\nend\n\n", "make record x\nend\n5 met clay ann 8", "make record x\nend\n5 met clay ann 8\nend",
		"make record x\n5 met clay ann 8", "make record x end", "make record x\nend\r\n", "\nmake record x\nend", " make record x\nend", "make  record x\nend", "make record  x\nend",
		"make record x \nend", "make record\nend", "make\nend", "make \nend", "make record x y\nend", "make record x g\nend", "make record X\nend", "make Record x\nend", "make records x\nend", "Make record x\nend",
		"make x record\nend", "record x\nend", "make dig x\nend", "make dig x g p\nend", "make site x\nend", "make make x\nend", "make end x\nend", "make x\nend", "make readings x\nend", "make readings x w w\nend",
		"make readings x W\nend", "make readings X w\nend", "make readings x \nend", "make thing x\nend", "make new x\nend", "make most g 1 b-1-0\nend", "make audit\nend", "audit\nend", "end\nend", "make record make\nend x",
	} {
		refuses(t, s, text, api.ErrForm)
	}
	for _, kind := range []string{"ground", "plan", "watch", "contract", "record", "job", "readings"} {
		tail := map[string]string{"readings": " w"}[kind]
		for _, name := range append([]string{""}, badNames...) {
			refuses(t, s, "make "+kind+" "+name+tail+"\nend", api.ErrForm)
		}
		refuses(t, s, "make "+kind+"s x"+tail+"\nend", api.ErrForm)
		refuses(t, s, "make "+kind+" x"+tail+" x\nend", api.ErrForm)
		refuses(t, s, "make "+kind+" x"+tail, api.ErrForm)
	}
	for _, text := range []string{"make record x\nend", "make record x1\nend\n", "make record x2\n5 met clay ann 8\nend", "make record x3\n5 met clay ann 8\nend\n", "make record make\nend", "make record end\nend"} {
		answers(t, s, text, "made "+strings.Fields(text)[2])
	}
	refuses(t, s, "make record y\n\nend", api.ErrForm) // its text is an empty line, which is no fact
	refuses(t, s, "make record y\n5 met clay ann 8\n\nend", api.ErrForm)
	answers(t, s, "seal x", "seal: 0")
	equal(t, "the same text", does(t, s, "seal x2"), does(t, s, "seal x3"))
}

// TestBlocks: P10.2, a block of each kind makes what its text says, or returns the error of its Parse.
func TestBlocks(t *testing.T) {
	s := site.New()
	for _, text := range blocks() {
		answers(t, s, text, "made "+strings.Fields(text)[2])
	}
	for _, c := range []struct {
		head, text string
		want       api.Errno
	}{
		{"ground x", "", api.ErrForm},
		{"ground x", groundText + "top bx 0 lime 3 4\n", api.ErrNone},
		{"ground x", groundText + "top bh 0 clay 3 4\n", api.ErrTwice},
		{"ground x", groundText + "top bx 11 clay 3 4\n", api.ErrScope},
		{"ground x", strings.Replace(groundText, "20", "-20", 1), api.ErrArg},
		{"ground x", strings.Replace(groundText, "fill", "Fill", 1), api.ErrName},
		{"ground x", planText, api.ErrForm},
		{"plan x", "stage s\nafter s\n", api.ErrNone},
		{"plan x", "stage s\nafter\n", api.ErrForm},
		{"plan x", groundText, api.ErrForm},
		{"watch x", "quantity q 0 0 0 0\n", api.ErrForm},
		{"watch x", "quantity Q 0 0 0 0 0\n", api.ErrName},
		{"watch x", "quantity q 1 0 0 0 0\n", api.ErrArg},
		{"watch x", watchText + "alarm sink 1 2 strut\n", api.ErrTwice},
		{"watch x", watchText + "alarm sink 1 2 pump\n", api.ErrNone},
		{"readings x w", "sink a 5\n", api.ErrForm},
		{"readings x w", "sink d 5 9\n", api.ErrNone},
		{"contract x", "base a 1 2\n", api.ErrForm},
		{"contract x", "base A 1\n", api.ErrName},
		{"contract x", "base a 1\nbase a 1\n", api.ErrTwice},
		{"contract x", "clause a 0 0 0\nwhen 1\npay 1\n", api.ErrArg},
		{"contract x", "clause a 0 0 0\nwhen (= 1 1)\npay (base x)\n", api.ErrNone},
		{"record x", "5 met clay ann\n", api.ErrForm},
		{"record x", "-1 met clay ann 8\n", api.ErrArg},
		{"record x", "5 Met clay ann 8\n", api.ErrName},
		{"record x", "5 met clay ann 8\n4 met clay ann 8\n", api.ErrState},
		{"record x", strings.Repeat("5 met clay ann 8\n", 513), api.ErrLimit},
		{"job x", "task a\n", api.ErrForm},
		{"job x", "task a 1\nneeds b\n", api.ErrNone},
		{"job x", "task A 1\n", api.ErrName},
		{"job x", "task a -1\n", api.ErrArg},
		{"job x", "task a 1\ntask a 1\n", api.ErrTwice},
		{"job x", "resource r 1\ntask a 1\nuses r 2\n", api.ErrScope},
		{"job x", strings.Repeat("resource r 1\n", 17), api.ErrLimit},
		{"job x", "task A 1\ntask a\n", api.ErrForm},
	} {
		refuses(t, s, block(c.head, c.text), c.want)
	}
	// plans, and readings, are not checked when they are made
	answers(t, s, block("plan x", "support A\nstage S\nstage S\ndemand 1 zz <= 1\n"), "made x")
	answers(t, s, block("readings y w", "sink a -5 9999999999\n"), "made y")
	answers(t, s, block("ground z", groundText+"top cs 0 clay 5 6\n"), "made z")
	equal(t, "names", s.Names(), []string{"g", "h", "no", "p", "w", "r", "c", "f", "half", "fact", "j", "x", "y", "z"})
	// texts of nothing
	for i, kind := range []string{"plan", "watch", "contract", "record", "job"} {
		answers(t, s, fmt.Sprintf("make %s e%d\nend", kind, i), fmt.Sprintf("made e%d", i))
	}
	answers(t, s, "make readings e5 e1\nend", "made e5")
	refuses(t, s, block("readings e6 e1", readingsText), api.ErrNone)
	answers(t, s, "dig e6 g e0", "dig e6: 0 stages")
	answers(t, s, "ready e6", "ready:")
	answers(t, s, "late e1", "late:")
	answers(t, s, "run e1 e5 100000", "run:")
	answers(t, s, "account e2 e3 0", "account: 0")
	answers(t, s, "seal e3", "seal: 0")
	answers(t, s, "schedule e4", "schedule: 0 of at least 0 [0]")
	answers(t, s, "audit", "audit: good 1")
}

// TestLongBlock: P10.2 and R7, a block of 65536 bytes.
func TestLongBlock(t *testing.T) {
	demand := "demand 1 b-1-0 <= 5\n"
	text := "make plan x\nstage s\n" + strings.Repeat(demand, api.MaxText/len(demand)-2)
	rest := api.MaxText - len(text) - len("end")
	text += "support " + strings.Repeat("s", rest-len("support \n")) + "\nend"
	equal(t, "its length", len(text), api.MaxText)
	refuses(t, site.New(), text, api.ErrForm) // a support behind a stage: it is read
	text = strings.Replace(text, "support ", "stage s-", 1)
	refuses(t, site.New(), text+"\n", api.ErrLimit)
	text = strings.Replace(text, "stage s-", "stage   ", 1)
	refuses(t, site.New(), text, api.ErrForm)
	text = strings.Replace(text, "stage   ", "stage ss", 1)
	answers(t, site.New(), text, "made x")
}

// stuffed is a full site with as many things as there may be, z0, z1 and so on being the last ones.
func stuffed(t testing.TB) *site.Site {
	t.Helper()
	s := full(t)
	for i := 0; len(s.Names()) < api.MaxThings; i++ {
		does(t, s, fmt.Sprintf("make record z%d\nend", i))
	}
	return s
}

// TestErrorsInOrder: P10.2 and R1, ErrTwice ahead of ErrNone, that ahead of ErrLimit, that ahead of the error of what is done.
func TestErrorsInOrder(t *testing.T) {
	for _, c := range []struct {
		text       string
		some, most api.Errno // in a site with some things, and with as many as there may be
	}{
		{block("ground g", ""), api.ErrTwice, api.ErrTwice},
		{block("plan d", "?\n"), api.ErrTwice, api.ErrTwice},
		{block("watch j", "?\n"), api.ErrTwice, api.ErrTwice},
		{block("contract f", "?\n"), api.ErrTwice, api.ErrTwice},
		{block("record half", recordText), api.ErrTwice, api.ErrTwice},
		{block("job w", jobText), api.ErrTwice, api.ErrTwice},
		{block("readings w zzz", "?\n"), api.ErrTwice, api.ErrTwice},
		{block("readings r w", readingsText), api.ErrTwice, api.ErrTwice},
		{"dig d zzz zzz", api.ErrTwice, api.ErrTwice},
		{"dig d g p", api.ErrTwice, api.ErrTwice},
		{"dig g g p", api.ErrTwice, api.ErrTwice},
		{"dig p h zzz", api.ErrTwice, api.ErrTwice},
		{"dig d g P", api.ErrForm, api.ErrForm},
		{block("readings w Zzz", ""), api.ErrForm, api.ErrForm},

		{block("readings x zzz", "?\n"), api.ErrNone, api.ErrNone},
		{block("readings x x", readingsText), api.ErrNone, api.ErrNone},
		{block("readings x r", readingsText), api.ErrNone, api.ErrNone},
		{"dig x zzz p", api.ErrNone, api.ErrNone},
		{"dig x g zzz", api.ErrNone, api.ErrNone},
		{"dig x p g", api.ErrNone, api.ErrNone},
		{"dig x x x", api.ErrNone, api.ErrNone},

		{block("ground x", "?\n"), api.ErrForm, api.ErrLimit},
		{block("plan x", "?\n"), api.ErrForm, api.ErrLimit},
		{block("watch x", "?\n"), api.ErrForm, api.ErrLimit},
		{block("contract x", "?\n"), api.ErrForm, api.ErrLimit},
		{block("record x", "?\n"), api.ErrForm, api.ErrLimit},
		{block("job x", "?\n"), api.ErrForm, api.ErrLimit},
		{block("readings x w", "?\n"), api.ErrForm, api.ErrLimit},
		{block("record x", recordText), api.OK, api.ErrLimit},
		{"dig x g p", api.OK, api.ErrLimit},
		{"observe d top x 99 clay 1 2", api.ErrScope, api.ErrScope},
		{"schedule j", api.OK, api.OK},
		{"most g 1 b-1-0", api.OK, api.OK},
		{"retract d bh", api.OK, api.OK},
		{"delta h g", api.OK, api.OK},
	} {
		for i, s := range []*site.Site{full(t), stuffed(t)} {
			want := []api.Errno{c.some, c.most}[i]
			if want == api.OK {
				does(t, s, c.text)
			} else {
				refuses(t, s, c.text, want)
			}
		}
	}
}

// TestThings: P10.2 and R7, 32 things are allowed, and a name stays as long as the site.
func TestThings(t *testing.T) {
	s := site.New()
	for i := range 31 {
		answers(t, s, fmt.Sprintf("make plan n%d\nend", i), fmt.Sprintf("made n%d", i))
	}
	answers(t, s, block("ground g", groundText), "made g")
	equal(t, "things", len(s.Names()), 32)
	refuses(t, s, "make plan n31\nend", api.ErrLimit)
	refuses(t, s, "make plan n30\nend", api.ErrTwice)
	refuses(t, s, "dig d g n0", api.ErrLimit)
	refuses(t, s, "dig n0 g n0", api.ErrTwice)
	s = site.New()
	does(t, s, block("ground g", groundText))
	does(t, s, block("plan p", planText))
	for i := range 30 {
		answers(t, s, fmt.Sprintf("dig d%d g p", i), fmt.Sprintf("dig d%d: 2 stages", i))
	}
	refuses(t, s, "dig d30 g p", api.ErrLimit)
	for i := range 30 {
		answers(t, s, fmt.Sprintf("verify d%d pit", i), fmt.Sprintf("d%d: verified [%d]", i, i))
	}
}
