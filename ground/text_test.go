package ground_test

import (
	"fmt"
	"math/rand"
	"regexp"
	"slices"
	"strings"
	"testing"

	"underpin/api"
	"underpin/ground"
)

const exampleText = `stations 0 10
depth 20
layer fill
layer clay
layer rock
trait cohesion 0 50
top bh 0 clay 3 4
value cs cohesion clay 10 30
`

// TestPrint: P2.8.
func TestPrint(t *testing.T) {
	s, e := ground.Print(example())
	equal(t, "the example", []any{s, e}, []any{exampleText, api.OK})
	g := with(example(), rowSaying(t, "r", "-1/2 b-1-0 3 t-cohesion-2 <= -7/3"), rowOf("0"), topSaying("low", 10, 2, "-1", "20"))
	g.Stations = []int{-100000, 0, 10, 100000}
	s, e = ground.Print(g)
	want := strings.Replace(exampleText, "0 10", "-100000 0 10 100000", 1) + "row r -1/2 b-1-0 3 t-cohesion-2 <= -7/3\nrow seen <= 0\ntop low 10 rock -1 20\n"
	equal(t, "rows", []any{s, e}, []any{want, api.OK})
	s, e = ground.Print(api.Ground{Stations: []int{-7}, Depth: "1/2", Layers: []string{"a"}})
	equal(t, "the least one", []any{s, e}, []any{"stations -7\ndepth 1/2\nlayer a\n", api.OK})
}

// longest is a ground whose text would have n bytes, about MaxText.
func longest(t *testing.T, n int) api.Ground {
	t.Helper()
	g := largest()
	u, e := ground.Unknowns(g)
	equal(t, "error", e, api.OK)
	g.Sayings = nil
	for i := range api.MaxSayings {
		s := rowOf("0")
		s.Name = fmt.Sprintf("r%02d", i)
		for _, name := range u {
			s.Row.Terms = append(s.Row.Terms, api.Term{Name: name, Coef: "1/99999999999"})
		}
		g.Sayings = append(g.Sayings, s)
	}
	text, e := ground.Print(g)
	equal(t, "error", e, api.OK)
	missing := n - len(text)
	for _, s := range g.Sayings {
		for k := range s.Row.Terms {
			zeros := min(missing, api.MaxInput-1)
			s.Row.Terms[k].Coef = api.Frac("1" + strings.Repeat("0", zeros) + "/99999999999")
			missing -= zeros
		}
	}
	equal(t, "missing", missing, 0)
	return g
}

// TestPrintLimit: P2.8, texts of 65536 bytes, and of one more.
func TestPrintLimit(t *testing.T) {
	g := longest(t, api.MaxText)
	s, e := ground.Print(g)
	equal(t, "65536 bytes", []any{len(s), e}, []any{api.MaxText, api.OK})
	back, line, e := ground.Parse(s)
	equal(t, "65536 bytes, parsed", []any{said(back), line, e}, []any{said(g), 0, api.OK})
	back, line, e = ground.Parse(s + "\n")
	equal(t, "65537 bytes, parsed", []any{said(back), line, e}, []any{said(api.Ground{}), 0, api.ErrLimit})
	back, line, e = ground.Parse(strings.Repeat("?\n", api.MaxText))
	equal(t, "too long, and wrong", []any{said(back), line, e}, []any{said(api.Ground{}), 0, api.ErrLimit})
	g = longest(t, api.MaxText+1)
	s, e = ground.Print(g)
	equal(t, "65537 bytes", []any{s, e, ground.Check(g)}, []any{"", api.ErrLimit, api.OK})
}

// TestParse: P2.8, the forms of lines.
func TestParse(t *testing.T) {
	g, line, e := ground.Parse(exampleText)
	equal(t, "the example", []any{said(g), line, e}, []any{said(example()), 0, api.OK})
	g, line, e = ground.Parse(strings.TrimSuffix(exampleText, "\n"))
	equal(t, "without the last line feed", []any{said(g), line, e}, []any{said(example()), 0, api.OK})
	long := strings.Repeat("7", api.MaxDigits)
	word := "\xff\x00\té"
	for _, c := range []struct {
		text string
		line int
		want api.Errno
	}{
		{"", 0, api.ErrForm},
		{"stations 0 10\n", 0, api.ErrForm},
		{"stations\n", 0, api.ErrForm},
		{"stations\ndepth 1\nlayer a\n", 0, api.ErrArg},
		{"stations 0\ndepth 1\n", 0, api.ErrArg},
		{"stations 0\ndepth 1\nlayer a", 0, api.OK},
		{"\n" + exampleText, 1, api.ErrForm},
		{exampleText + "\n", 9, api.ErrForm},
		{exampleText + "\n\n", 9, api.ErrForm},
		{exampleText + " ", 9, api.ErrForm},
		{"depth 1\nstations 0\nlayer a\n", 1, api.ErrForm},
		{"depth 1\n", 1, api.ErrForm},
		{"layer a\n", 1, api.ErrForm},
		{"stations 0\nlayer a\ndepth 1\n", 2, api.ErrForm},
		{"stations 0\nstations 0\ndepth 1\nlayer a\n", 2, api.ErrForm},
		{"stations 0\ndepth 1\ndepth 1\nlayer a\n", 3, api.ErrForm},
		{"stations 0\ndepth 1\nlayer a\nstations 0\n", 4, api.ErrForm},
		{"stations 0\ndepth 1\nlayer a\ndepth 1\n", 4, api.ErrForm},
		{"stations 0\ndepth 1\nlayer a\ntrait t 0 1\nlayer b\n", 5, api.ErrForm},
		{"stations 0\ndepth 1\nlayer a\ntrait t 0 1\ntrait u 0 1\nvalue x t a 0 1\nrow y <= 0\nvalue z u a 0 1\n", 0, api.OK},
		{"stations 0\ndepth 1\nlayer a\nrow y <= 0\ntrait t 0 1\n", 5, api.ErrForm},
		{"stations 0\ndepth 1\nlayer a\nrow y <= 0\nlayer b\n", 5, api.ErrForm},
		{"stations 0\ndepth 1\ntrait t 0 1\n", 0, api.ErrArg},
		{"stations 0\ndepth 1\nrow y <= 0\n", 0, api.ErrArg},
		{"Stations 0\n", 1, api.ErrForm},
		{"stations  0\n", 1, api.ErrForm},
		{" stations 0\n", 1, api.ErrForm},
		{"stations 0 \n", 1, api.ErrForm},
		{"stations 0\r\n", 1, api.ErrForm},
		{"stations\t0\n", 1, api.ErrForm},
		{"stations 00\n", 1, api.ErrForm},
		{"stations +1\n", 1, api.ErrForm},
		{"stations -0\n", 1, api.ErrForm},
		{"stations 1/2\n", 1, api.ErrForm},
		{"stations 1_0\n", 1, api.ErrForm},
		{"stations 0x1\n", 1, api.ErrForm},
		{"stations 1000000\n", 1, api.ErrForm},
		{"stations -1000000\n", 1, api.ErrForm},
		{"stations 99999999999999999999999\n", 1, api.ErrForm},
		{"stations 999999 -999999\ndepth 0\nlayer a\n", 0, api.ErrArg},
		{"stations 1 2 3 4 5 6 7\ndepth 0\nlayer a\n", 0, api.ErrLimit},
		{"stations 0\ndepth\n", 2, api.ErrForm},
		{"stations 0\ndepth 1 2\n", 2, api.ErrForm},
		{"stations 0\ndepth 1.5\n", 2, api.ErrForm},
		{"stations 0\ndepth 2/4\n", 2, api.ErrForm},
		{"stations 0\ndepth -3/2\n", 0, api.ErrArg},
		{"stations 0\ndepth " + long + "\nlayer a\n", 0, api.ErrLimit},
		{"stations 0\ndepth " + long + "7\nlayer a\n", 2, api.ErrForm},
		{"stations 0\ndepth 1\nlayer\n", 3, api.ErrForm},
		{"stations 0\ndepth 1\nlayer a b\n", 3, api.ErrForm},
		{"stations 0\ndepth 1\nlayer " + word + "\n", 0, api.ErrName},
		{"stations 0\ndepth 1\nlayer a\ntrait t 0\n", 4, api.ErrForm},
		{"stations 0\ndepth 1\nlayer a\ntrait t 0 1 2\n", 4, api.ErrForm},
		{"stations 0\ndepth 1\nlayer a\ntrait t x 1\n", 4, api.ErrForm},
		{"stations 0\ndepth 1\nlayer a\ntrait t 0 x\n", 4, api.ErrForm},
		{"stations 0\ndepth 1\nlayer a\ntrait " + word + " 2 1\n", 0, api.ErrName},
		{"stations 0\ndepth 1\nlayer a\ntrait t 2 1\n", 0, api.ErrArg},
		{"stations 0\ndepth 1\nlayer a\nseen x\n", 4, api.ErrForm},
		{"stations 0\ndepth 1\nlayer a\n\n", 4, api.ErrForm},
	} {
		g, line, e := ground.Parse(c.text)
		equal(t, fmt.Sprintf("%.80q", c.text), []any{line, e}, []any{c.line, c.want})
		if e != api.OK {
			equal(t, "with an error", said(g), said(api.Ground{}))
		}
	}
}

// TestParseStatements: P2.8, lines of statements, behind those of the example.
func TestParseStatements(t *testing.T) {
	long := strings.Repeat("7", 20)
	word := "\xff\x00\té"
	for _, c := range []struct {
		text string
		line int
		want api.Errno
	}{
		{"top x 4 clay 1 2", 0, api.OK},
		{"top x 10 rock -1/2 2", 0, api.OK},
		{"top x 4 clay 1", 9, api.ErrForm},
		{"top x 4 clay 1 2 3", 9, api.ErrForm},
		{"top x 04 clay 1 2", 9, api.ErrForm},
		{"top x +4 clay 1 2", 9, api.ErrForm},
		{"top x 4/2 clay 1 2", 9, api.ErrForm},
		{"top x 1000000 clay 1 2", 9, api.ErrForm},
		{"top x 999999 clay 1 2", 0, api.ErrScope},
		{"top x -999999 clay 1 2", 0, api.ErrScope},
		{"top x 4 clay 2 1", 0, api.ErrArg},
		{"top x 4 clay x 2", 9, api.ErrForm},
		{"top x 4 clay 1 2/4", 9, api.ErrForm},
		{"top x 4 clay 1 " + long, 0, api.ErrLimit},
		{"top x 4 fill 1 2", 0, api.ErrNone},
		{"top x 4 lime 1 2", 9, api.ErrNone},
		{"top x 4 Clay 1 2", 9, api.ErrNone},
		{"top x 4 1 1 2", 9, api.ErrNone},
		{"top x 4 lime 1 x", 9, api.ErrForm},
		{"top x 4 lime x 1", 9, api.ErrForm},
		{"top x q lime 1 2", 9, api.ErrForm},
		{"top x 4 lime 1 2 3", 9, api.ErrForm},
		{"top x 4 lime 1 2\ntop", 9, api.ErrNone},
		{"top\ntop x 4 lime 1 2", 9, api.ErrForm},
		{"top bh 4 clay 1 2", 0, api.ErrTwice},
		{"top " + word + " 4 clay 1 2", 0, api.ErrName},
		{"top x 4 clay 1 2 ", 9, api.ErrForm},
		{"top x 4  clay 1 2", 9, api.ErrForm},
		{"value x cohesion fill 1 2", 0, api.OK},
		{"value x cohesion fill 1 2 3", 9, api.ErrForm},
		{"value x cohesion fill 1", 9, api.ErrForm},
		{"value x weight fill 1 2", 0, api.ErrNone},
		{"value x " + word + " fill 1 2", 0, api.ErrNone},
		{"value x cohesion lime 1 2", 9, api.ErrNone},
		{"value x cohesion lime 1 y", 9, api.ErrForm},
		{"value x cohesion lime y 1", 9, api.ErrForm},
		{"value x weight lime 1 2", 9, api.ErrNone},
		{"value x cohesion fill 2 1", 0, api.ErrArg},
		{"row x <= 1", 0, api.OK},
		{"row x 1 b-1-0 <= 1", 0, api.OK},
		{"row x 1/2 b-1-0 -2 t-cohesion-2 <= -1/3", 0, api.OK},
		{"row x 1 b-1-0 >= 1", 9, api.ErrForm},
		{"row x 1 b-1-0 = 1", 9, api.ErrForm},
		{"row x 1 b-1-0 < 1", 9, api.ErrForm},
		{"row x 1 b-1-0 1", 9, api.ErrForm},
		{"row x 1 b-1-0 <=", 9, api.ErrForm},
		{"row x <= 1 <= 1", 9, api.ErrForm},
		{"row x 1 <= <= 1", 0, api.ErrName},
		{"row x b-1-0 1 <= 1", 9, api.ErrForm},
		{"row x 1 <= 1", 9, api.ErrForm},
		{"row x 1 b-1-0 <= x", 9, api.ErrForm},
		{"row x 1 b-1-0 2/4 b-1-1 <= 1", 9, api.ErrForm},
		{"row x 0 b-1-0 <= 1", 0, api.ErrArg},
		{"row x 1 b-1-1 1 b-1-0 <= 1", 0, api.ErrArg},
		{"row x 1 b-1-0 1 b-1-0 <= 1", 0, api.ErrTwice},
		{"row x 1 b-9-9 <= 1", 0, api.ErrNone},
		{"row x 1 " + word + " <= 1", 0, api.ErrName},
		{"row x 1 b-1-0 <= " + long, 0, api.ErrLimit},
		{"row x " + long + " b-1-0 <= 1", 0, api.ErrLimit},
		{"row bh <= 1", 0, api.ErrTwice},
		{"row <= 1", 9, api.ErrForm},
		{"row x", 9, api.ErrForm},
		{"row", 9, api.ErrForm},
		{"row <= <= 1", 0, api.ErrName},
		{"rows x <= 1", 9, api.ErrForm},
		{"1 b-1-0 <= 1", 9, api.ErrForm},
	} {
		_, line, e := ground.Parse(exampleText + c.text)
		equal(t, c.text, []any{line, e}, []any{c.line, c.want})
		_, line, e = ground.Parse(exampleText + c.text + "\n")
		equal(t, c.text, []any{line, e}, []any{c.line, c.want})
	}
	g, _, e := ground.Parse(exampleText + "row x 1 b-1-0 -2 t-cohesion-2 <= -1/3\nvalue y cohesion rock 1 2\ntop z -0 clay 1 2\n")
	equal(t, "-0 is no place", []any{said(g), e}, []any{said(api.Ground{}), api.ErrForm})
	g, _, e = ground.Parse(exampleText + "row x 1 b-1-0 -2 t-cohesion-2 <= -1/3\nvalue y cohesion rock 1 2\ntop z 7 rock 1 2\n")
	want := with(example(), rowSaying(t, "x", "1 b-1-0 -2 t-cohesion-2 <= -1/3"), traitSaying("y", "cohesion", 2, "1", "2"), topSaying("z", 7, 2, "1", "2"))
	equal(t, "statements", []any{said(g), e}, []any{said(want), api.OK})
	// a layer is looked for among those above alone: the statement decides, not what is wrong behind it
	_, line, e := ground.Parse("stations 0\ndepth 1\nlayer a\ntop x 0 b 0 0\nlayer b\n")
	equal(t, "a layer below", []any{line, e}, []any{4, api.ErrNone})
	_, line, e = ground.Parse("stations 0\ndepth 1\nlayer a\nlayer b\nlayer b\ntop x 0 b 0 0\n")
	equal(t, "a layer twice", []any{line, e}, []any{0, api.ErrTwice})
}

// forms are the forms of lines, each with the letter of where it may stand.
var forms = []struct {
	letter string
	form   *regexp.Regexp
}{
	{"S", formOf(`stations( INT)*`)},
	{"D", formOf(`depth NUM`)},
	{"L", formOf(`layer \S+`)},
	{"T", formOf(`trait \S+ NUM NUM`)},
	{"X", formOf(`top \S+ INT \S+ NUM NUM`)},
	{"X", formOf(`value \S+ \S+ \S+ NUM NUM`)},
	{"X", formOf(`row \S+( NUM \S+)* <= NUM`)},
}

// formOf returns the form of a line.
func formOf(words string) *regexp.Regexp {
	return regexp.MustCompile("^" + strings.NewReplacer("INT", anInteger, "NUM", aNumber).Replace(words) + "$")
}

// What is written in the places of INT and NUM. (All quotients of these tests are in lowest terms.)
const (
	anInteger = `(0|-?[1-9][0-9]*)`
	aNumber   = `(0|-?[1-9][0-9]*(/([2-9]|[1-9][0-9]+))?)`
)

// lineError tells the first line that is wrong, by regular expressions.
func lineError(text string) (int, api.Errno) {
	order := regexp.MustCompile(`^(S|SDL*T*X*)$`) // of all lines up to here
	letters := ""
	var layers []string
	lines := strings.Split(text, "\n")
	if lines[len(lines)-1] == "" {
		lines = lines[:len(lines)-1]
	}
	for i, line := range lines {
		letter := ""
		for _, f := range forms {
			if f.form.MatchString(line) {
				letter = f.letter
			}
		}
		letters += letter
		if letter == "" || !order.MatchString(letters) {
			return i + 1, api.ErrForm
		}
		words := strings.Split(line, " ")
		if letter == "L" {
			layers = append(layers, words[1])
		}
		if letter == "X" && words[0] != "row" && !slices.Contains(layers, words[3]) {
			return i + 1, api.ErrNone
		}
	}
	if len(letters) < 2 {
		return 0, api.ErrForm
	}
	return 0, api.OK
}

// TestParseByWords: P2.8, texts whose lines and words are changed, against regular expressions.
func TestParseByWords(t *testing.T) {
	r := rand.New(rand.NewSource(8))
	words := []string{"stations", "depth", "layer", "trait", "top", "value", "row", "fill", "clay", "x", "0", "-1", "7/3", "<=", ">=", "", "+1", "01", "b-1-0", "-0"}
	counts := map[api.Errno]int{}
	for range 3000 {
		g, _ := randomGround(r, 6, true)
		text, e := ground.Print(g)
		equal(t, "error", e, api.OK)
		lines := strings.SplitAfter(text, "\n")
		for range r.Intn(3) {
			i, k := r.Intn(len(lines)), r.Intn(len(lines))
			switch r.Intn(4) {
			case 0:
				lines[i], lines[k] = lines[k], lines[i]
			case 1:
				lines = slices.Insert(lines, i, lines[k])
			case 2:
				lines = slices.Delete(lines, i, i+1)
			default:
				w := strings.Split(strings.TrimSuffix(lines[i], "\n"), " ")
				w[r.Intn(len(w))] = words[r.Intn(len(words))]
				lines[i] = strings.Join(w, " ") + "\n"
			}
			if len(lines) == 0 {
				break
			}
		}
		text = strings.Join(lines, "")
		line, want := lineError(text)
		got, at, e := ground.Parse(text)
		if want != api.OK {
			equal(t, fmt.Sprintf("%q", text), []any{said(got), at, e}, []any{said(api.Ground{}), line, want})
		} else {
			equal(t, fmt.Sprintf("%q", text), []any{at, e == api.OK && ground.Check(got) != api.OK}, []any{0, false})
		}
		counts[e]++
	}
	for _, e := range []api.Errno{api.OK, api.ErrForm, api.ErrNone, api.ErrTwice, api.ErrArg} {
		if counts[e] < 10 {
			t.Error("too few:", e, counts)
		}
	}
}

// TestTextAndBack: P2.9.
func TestTextAndBack(t *testing.T) {
	r := rand.New(rand.NewSource(9))
	for range 300 {
		g, _ := randomGround(r, 10, true)
		s, e := ground.Print(g)
		equal(t, "error", e, api.OK)
		back, line, e := ground.Parse(s)
		equal(t, "parsed", []any{said(back), line, e}, []any{said(g), 0, api.OK})
		again, e := ground.Print(back)
		equal(t, "written again", []any{again, e}, []any{s, api.OK})
	}
}
