package site_test

import (
	"fmt"
	"hash/fnv"
	"math/rand"
	"strings"
	"testing"

	"underpin/api"
	"underpin/exact"
	"underpin/ground"
	"underpin/site"
	"underpin/stages"
)

// TestMost: P10.2, the greatest value of a sum over the models of a ground.
func TestMost(t *testing.T) {
	s := full(t)
	for i, c := range []struct{ line, want string }{
		{"most g 1 b-1-0", "most: 4"},
		{"most g -1 b-1-0", "most: -3"},
		{"most g 2/3 b-1-0", "most: 8/3"},
		{"most g 1 b-1-1", "most: 20"},
		{"most h 1 b-1-1", "most: 15"},
		{"most g 1 b-1-0 -1/2 b-1-1", "most: 4"},
		{"most g -1/2 b-1-1 1 b-1-0", "most: 4"},
		{"most h 1 b-2-1 -1 b-1-1 1 b-1-0", "most: 18"},
		{"most no 1 b-1-0", "most: none"},
		{"most no -1 b-2-1 3 b-1-0 1 b-2-0", "most: none"},
	} {
		answers(t, s, c.line, fmt.Sprintf("%s [%d]", c.want, i))
	}
	equal(t, "sorted", s.Papers()[7].Goal, []api.Term{{Name: "b-1-0", Coef: "1"}, {Name: "b-1-1", Coef: "-1"}, {Name: "b-2-1", Coef: "1"}})
	equal(t, "names", s.Names(), full(t).Names())
	long := strings.Repeat("7", api.MaxDigits)
	for _, c := range []struct {
		terms string
		want  api.Errno
	}{
		{"1 B", api.ErrName},
		{"1 b-1-0\t", api.ErrName},
		{"1 \xff", api.ErrName},
		{"1 1", api.ErrName},
		{"0 b-1-0", api.ErrArg},
		{"0 b-9-9", api.ErrArg},
		{"1000000000000 b-1-0", api.ErrLimit},
		{long + " b-1-0", api.ErrLimit},
		{"1/" + long + " b-1-0", api.ErrLimit},
		{"1 b-1-0 1 b-1-0", api.ErrTwice},
		{"1 b-1-0 1 b-1-1 -1 b-1-0", api.ErrTwice},
		{"1 zz 1 zz", api.ErrTwice},
		{"1 b-3-0", api.ErrNone},
		{"1 b-1-2", api.ErrNone},
		{"1 b-1-0 1 b-3-0", api.ErrNone},
		{"1 t-cohesion-0", api.ErrNone},
		// terms are looked at in the order of names, and all of them ahead of the ground
		{"1 zz 1 B", api.ErrName},
		{"0 zz 1 B", api.ErrName},
		{"1 zz 0 aa", api.ErrArg},
		{"1000000000000 b 0 a", api.ErrArg},
		{"0 b 1000000000000 a", api.ErrLimit},
		{"0 c 1 b 1 a 1 b", api.ErrTwice},
		{"1 c 1 c 0 b", api.ErrArg},
		// of two of one name the first one stands first
		{"1000000000000 a 0 a", api.ErrLimit},
		{"0 a 1000000000000 a", api.ErrArg},
	} {
		for _, g := range []string{"g", "no"} {
			refuses(t, s, "most "+g+" "+c.terms, c.want)
		}
	}
	s = site.New()
	does(t, s, block("ground flat", "stations 0\ndepth 1\nlayer a\n"))
	refuses(t, s, "most flat 1 b-1-0", api.ErrNone)
}

// TestDelta: P10.2, what two grounds say differently.
func TestDelta(t *testing.T) {
	s := full(t)
	for _, c := range []struct{ line, want string }{
		{"delta g g", "delta: 0"},
		{"delta g h", "delta: 2 *bh +cs"},
		{"delta h g", "delta: 2 *bh -cs"},
		{"delta g no", "delta: 1 +deep"},
		{"delta no g", "delta: 1 -deep"},
		{"delta h no", "delta: 3 *bh -cs +deep"},
	} {
		answers(t, s, c.line, c.want)
	}
	does(t, s, block("ground x", strings.Replace(groundText, "20", "21", 1)))
	refuses(t, s, "delta g x", api.ErrClash)
	refuses(t, s, "delta x g", api.ErrClash)
	equal(t, "papers", len(s.Papers()), 0)
}

// TestNewDig: P10.2, digs are made of a ground and a plan, which stay as they are.
func TestNewDig(t *testing.T) {
	s := full(t)
	answers(t, s, "dig x g p", "dig x: 2 stages")
	answers(t, s, "dig y no p", "dig y: 2 stages")
	answers(t, s, block("plan q", "stage only\n"), "made q")
	answers(t, s, "dig z g q", "dig z: 1 stages")
	for _, c := range []struct {
		plan string
		want api.Errno
	}{
		{"support A\n", api.ErrName}, {"support a\nsupport a\n", api.ErrTwice}, {"stage S\n", api.ErrName}, {"stage s\nstage s\n", api.ErrTwice},
		{"support a\nstage s\nsets a a\n", api.ErrTwice}, {"stage s\ndemand 1 b-3-0 <= 1\n", api.ErrScope},
		{strings.Repeat("stage s\n", 25), api.ErrLimit}, {"stage s\n" + strings.Repeat("demand <= 1\n", 7), api.ErrLimit},
	} {
		s := full(t)
		does(t, s, block("plan bad", c.plan))
		refuses(t, s, "dig x g bad", c.want)
	}
	does(t, s, "observe x top cut 5 clay 2 3")
	answers(t, s, "delta g g", "delta: 0")
	answers(t, s, "most g 1 b-1-1", "most: 20 [0]")
	answers(t, s, "verify x pit", "x: verified [1]")
	refuses(t, s, "start d pit", api.ErrState)
	answers(t, s, "start x pit", "x: started")
}

// observations are statements with the error of the line that observes them in the example's dig.
var observations = []struct {
	line string
	want api.Errno
}{
	{"top cut 5 clay 2 3", api.OK},
	{"top cut 0 rock -1/2 20", api.OK},
	{"top cut 10 rock 20 20", api.OK},
	{"row cut <= 1", api.OK},
	{"row cut <= -1", api.OK},
	{"row cut 1/2 b-1-0 -2 b-2-1 <= -1/3", api.OK},
	{"top cut 5 clay 2", api.ErrForm},
	{"top cut 5 clay 2 3 4", api.ErrForm},
	{"top cut 05 clay 2 3", api.ErrForm},
	{"top cut +5 clay 2 3", api.ErrForm},
	{"top cut -0 clay 2 3", api.ErrForm},
	{"top cut 5/2 clay 2 3", api.ErrForm},
	{"top cut x clay 2 3", api.ErrForm},
	{"top cut 1000000 clay 2 3", api.ErrForm},
	{"top cut -1000000 clay 2 3", api.ErrForm},
	{"top cut 99999999999999999999 clay 2 3", api.ErrForm},
	{"top cut 999999 clay 2 3", api.ErrScope},
	{"top cut -999999 clay 2 3", api.ErrScope},
	{"top cut 11 clay 2 3", api.ErrScope},
	{"top cut -1 clay 2 3", api.ErrScope},
	{"top cut 5 clay 3 2", api.ErrArg},
	{"top cut 5 clay x 3", api.ErrForm},
	{"top cut 5 clay 2 x", api.ErrForm},
	{"top cut 5 clay 2 6/4", api.ErrForm},
	{"top cut 5 clay 2 1000000000000", api.ErrLimit},
	{"top cut 5 fill 2 3", api.ErrNone},
	{"top cut 5 lime 2 3", api.ErrNone},
	{"top cut 5 Clay 2 3", api.ErrNone},
	{"top cut 5 1 2 3", api.ErrNone},
	{"top cut 5 lime 3 2", api.ErrNone},
	{"top cut 11 lime 2 3", api.ErrNone},
	{"top Cut 5 lime 2 3", api.ErrNone},
	{"top cut x lime 2 3", api.ErrForm},
	{"top cut 5 lime x 3", api.ErrForm},
	{"top cut 5 lime 2 x", api.ErrForm},
	{"top Cut 5 clay 2 3", api.ErrName},
	{"top bh 5 clay 2 3", api.ErrTwice},
	{"top bh 11 clay 3 2", api.ErrTwice},
	{"value cut cohesion clay 1 2", api.ErrNone}, // no such trait
	{"value cut cohesion lime 1 2", api.ErrNone},
	{"value cut cohesion clay 1", api.ErrForm},
	{"value cut cohesion clay 1 2 3", api.ErrForm},
	{"value cut cohesion clay 1 x", api.ErrForm},
	{"value cut cohesion clay x 1", api.ErrForm},
	{"value bh cohesion clay 1 2", api.ErrTwice},
	{"row cut", api.ErrForm},
	{"row cut 1", api.ErrForm},
	{"row cut <=", api.ErrForm},
	{"row <= 1", api.ErrForm},
	{"row cut 1 b-1-0 >= 1", api.ErrForm},
	{"row cut 1 b-1-0 = 1", api.ErrForm},
	{"row cut 1 b-1-0 < 1", api.ErrForm},
	{"row cut 1 b-1-0 1", api.ErrForm},
	{"row cut 1 <= 1", api.ErrForm},
	{"row cut x b-1-0 <= 1", api.ErrForm},
	{"row cut 1 b-1-0 <= x", api.ErrForm},
	{"row cut 1 b-1-0 <= 1 2", api.ErrForm},
	{"row cut <= 1 <= 1", api.ErrForm},
	{"row cut 1 <= <= 1", api.ErrName},
	{"row cut 0 b-1-0 <= 1", api.ErrArg},
	{"row cut 1 b-1-1 1 b-1-0 <= 1", api.ErrArg},
	{"row cut 1 b-1-0 1 b-1-0 <= 1", api.ErrTwice},
	{"row cut 1 b-9-9 <= 1", api.ErrNone},
	{"row cut 1 B <= 1", api.ErrName},
	{"row cut 1 b-1-0 <= 1000000000000", api.ErrLimit},
	{"row Cut <= 1", api.ErrName},
	{"row <= <= 1", api.ErrName},
	{"row bh <= 1", api.ErrTwice},
	{"rows cut <= 1", api.ErrForm},
	{"Top cut 5 clay 2 3", api.ErrForm},
	{"1 b-1-0 <= 1", api.ErrForm},
	{"layer lime", api.ErrForm},
	{"trait cohesion 0 1", api.ErrForm},
	{"depth 20", api.ErrForm},
	{"stations 0 10", api.ErrForm},
	{"top", api.ErrForm},
	{"value", api.ErrForm},
	{"row", api.ErrForm},
	{"cut", api.ErrForm},
	{"#", api.ErrForm},
}

// TestObserve: P10.2, statements are added to the ground of a dig.
func TestObserve(t *testing.T) {
	for _, c := range observations {
		s := full(t)
		if c.want == api.OK {
			answers(t, s, "observe d "+c.line, "d: observed")
			want, _, e := ground.Parse(groundText + c.line)
			d, is := s.Dig("d")
			equal(t, c.line, []any{said(d.Ground), is, e}, []any{said(want), true, api.OK})
		} else {
			refuses(t, s, "observe d "+c.line, c.want)
		}
	}
	s := site.New()
	does(t, s, block("ground g", "stations -100000 0\ndepth 5\nlayer a\nlayer b\ntrait q 0 9\n"))
	does(t, s, "make plan p\nend")
	does(t, s, "dig d g p")
	answers(t, s, "observe d value x q a 1/2 3", "d: observed")
	answers(t, s, "observe d value y q b 9 9\n", "d: observed")
	answers(t, s, "observe d top z -99999 b 0 1", "d: observed")
	refuses(t, s, "observe d value z q c 1 2", api.ErrNone)
	refuses(t, s, "observe d value v r a 1 2", api.ErrNone)
	refuses(t, s, "observe d value v q a 2 1", api.ErrArg)
	d, _ := s.Dig("d")
	want := []api.Saying{
		{Name: "x", Kind: api.SaTrait, Trait: "q", Low: "1/2", High: "3"}, {Name: "y", Kind: api.SaTrait, Trait: "q", Layer: 1, Low: "9", High: "9"},
		{Name: "z", Kind: api.SaTop, X: -99999, Layer: 1, Low: "0", High: "1"},
	}
	equal(t, "statements", said(d.Ground.Sayings), said(want))
	for i := len(want); i < api.MaxSayings; i++ {
		does(t, s, fmt.Sprintf("observe d row r%d <= 1", i))
	}
	refuses(t, s, "observe d row r40 <= 1", api.ErrLimit)
	refuses(t, s, "observe d row r40 <= x", api.ErrForm)
	refuses(t, s, "observe d value r40 q c 1 2", api.ErrNone)
	equal(t, "papers", len(s.Papers()), 0)
}

// TestObserveLong: P10.2, a statement of a line that is as long as can be.
func TestObserveLong(t *testing.T) {
	s := full(t)
	line := "observe d row cut " + strings.Repeat("7", api.MaxDigits) + " b-1-0 " + strings.Repeat("7", api.MaxText-api.MaxDigits-len("observe d row cut  b-1-0  b-1-1 <= 1")) + " b-1-1 <= 1"
	equal(t, "its length", len(line), api.MaxText)
	refuses(t, s, line, api.ErrLimit)
	refuses(t, s, line[:len(line)-1]+"x", api.ErrForm)
	// a ground whose text is too long for ground.Parse
	s = site.New()
	wide, e := ground.Print(wideGround())
	equal(t, "Print", e, api.OK)
	known, e := ground.Unknowns(wideGround())
	equal(t, "Unknowns", e, api.OK)
	does(t, s, block("ground g", wide))
	does(t, s, "make plan p\nend")
	does(t, s, "dig d g p")
	for i := range api.MaxSayings {
		var terms strings.Builder
		for _, name := range known {
			terms.WriteString("-100000000000/100000000003 " + name + " ")
		}
		answers(t, s, fmt.Sprintf("observe d row r%d %s<= %d/7", i, terms.String(), 1+i%6), "d: observed")
	}
	text, e := ground.Print(lastDig(s).Ground)
	equal(t, "its text", []any{text, e}, []any{"", api.ErrLimit})
	refuses(t, s, "observe d row r40 <= 1", api.ErrLimit)
	refuses(t, s, "observe d row r40 <= x", api.ErrForm)
}

// TestObserveByParse: P10.2, a statement is read, or refused, as ground.Parse does it.
func TestObserveByParse(t *testing.T) {
	r := rand.New(rand.NewSource(6))
	text := strings.Replace(groundText, "top bh", "trait cohesion 0 50\ntop bh", 1)
	statements := []string{"top x 4 clay 1 2", "value x cohesion rock 1 2", "row x 1 b-1-0 -1/2 b-2-1 <= 7/3", "row x <= 0"}
	words := []string{"top", "value", "row", "layer", "depth", "bh", "x", "X", "clay", "fill", "lime", "cohesion", "0", "4", "-1", "7/3", "1000000", "999999", "11", "<=", ">=", "=", "b-1-0", "b-9-9", "01", "2/4", "1000000000000", "+1"}
	counts := map[api.Errno]int{}
	for range 8000 {
		w := strings.Split(statements[r.Intn(len(statements))], " ")
		for range r.Intn(3) {
			w[r.Intn(len(w))] = words[r.Intn(len(words))]
		}
		if r.Intn(8) == 0 {
			w = without(w, r.Intn(len(w)))
		}
		line := list(w)
		g, _, want := ground.Parse(text + line + "\n")
		if w[0] != "top" && w[0] != "value" && w[0] != "row" {
			want = api.ErrForm // no statement
		}
		counts[want]++
		s := site.New()
		does(t, s, block("ground g", text))
		does(t, s, "make plan p\nend")
		does(t, s, "dig d g p")
		if want != api.OK {
			refuses(t, s, "observe d "+line, want)
			continue
		}
		answers(t, s, "observe d "+line, "d: observed")
		equal(t, line, said(lastDig(s).Ground), said(g))
	}
	for _, e := range []api.Errno{api.OK, api.ErrForm, api.ErrNone, api.ErrName, api.ErrTwice, api.ErrArg, api.ErrLimit, api.ErrScope} {
		if counts[e] < 10 {
			t.Error("too few:", e, counts)
		}
	}
}

// TestDeeds: P10.2, what is done in a dig, and how it is refused.
func TestDeeds(t *testing.T) {
	s := full(t)
	answers(t, s, "ready d", "ready:")
	refuses(t, s, "start d pit", api.ErrState)
	refuses(t, s, "finish d pit", api.ErrState)
	refuses(t, s, "retract d cs", api.ErrNone)
	answers(t, s, "verify d pit", "d: verified [0]")
	refuses(t, s, "verify d pit", api.ErrState)
	answers(t, s, "ready d", "ready: pit")
	answers(t, s, "verify d floor", "d: verified [1]")
	refuses(t, s, "start d floor", api.ErrLoop)
	answers(t, s, "start d pit", "d: started")
	refuses(t, s, "start d pit", api.ErrState)
	answers(t, s, "finish d pit", "d: finished")
	refuses(t, s, "finish d pit", api.ErrState)
	answers(t, s, "ready d", "ready: floor")
	answers(t, s, "retract d bh", "d: retracted, shaken 1")
	refuses(t, s, "retract d bh", api.ErrNone)
	answers(t, s, "ready d", "ready:")
	refuses(t, s, "start d floor", api.ErrState)
	refuses(t, s, "verify d pit", api.ErrSum)
	answers(t, s, "observe d top seen 0 clay 2 9/2", "d: observed")
	answers(t, s, "verify d pit", "d: verified [2]")
	refuses(t, s, "verify d floor", api.ErrSum)
	answers(t, s, "observe d top more 0 clay 2 4", "d: observed")
	answers(t, s, "verify d floor", "d: verified [3]")
	answers(t, s, "retract d more", "d: retracted, shaken 0")
	answers(t, s, "observe d top more 0 clay 2 4", "d: observed")
	answers(t, s, "verify d floor", "d: verified [4]")
	answers(t, s, "start d floor", "d: started")
	answers(t, s, "retract d more", "d: retracted, shaken 1")
	answers(t, s, "retract d seen", "d: retracted, shaken 2")
	answers(t, s, "finish d floor", "d: finished")
	answers(t, s, "observe d top deep 0 clay 7 9", "d: observed")
	answers(t, s, "observe d top flat 0 clay 1 2", "d: observed")
	refuses(t, s, "verify d pit", api.ErrClash)
	answers(t, s, "ready d", "ready:")
	answers(t, s, "audit", "audit: good 5")
	for i, p := range s.Papers() {
		equal(t, fmt.Sprint("paper ", i), site.Verify(p), api.OK)
	}
}

// TestStartErrors: P10.2, the errors of DeBegin that the example has not, and several that are ready.
func TestStartErrors(t *testing.T) {
	s := full(t)
	does(t, s, block("plan q", "support a\nsupport b\nstage one\nsets a\nstage two\nrests a\nstage three\ntakes a\nstage four\nrests b\nstage five\n"))
	does(t, s, "dig e g q")
	for i, name := range []string{"one", "two", "three", "four", "five"} {
		answers(t, s, "verify e "+name, fmt.Sprintf("e: verified [%d]", i))
	}
	answers(t, s, "ready e", "ready: one five")
	refuses(t, s, "start e two", api.ErrArg)
	refuses(t, s, "start e four", api.ErrArg)
	does(t, s, "start e one")
	does(t, s, "finish e one")
	answers(t, s, "ready e", "ready: two three five")
	does(t, s, "start e two")
	refuses(t, s, "start e three", api.ErrTwice)
	answers(t, s, "ready e", "ready: five")
	does(t, s, "observe e top deep 0 clay 7 9")
	answers(t, s, "ready e", "ready:")
	refuses(t, s, "start e five", api.ErrClash)
	does(t, s, "retract e deep")
	answers(t, s, "start e five", "e: started")
	does(t, s, block("plan x", "stage one\ndemand 1 b-1-0 <= 4\nstage two\n"))
	does(t, s, "dig f2 g x")
	does(t, s, "verify f2 one")
	does(t, s, "verify f2 two")
	does(t, s, "start f2 one")
	answers(t, s, "retract f2 bh", "f2: retracted, shaken 1")
	refuses(t, s, "start f2 two", api.ErrScope)
	answers(t, s, "ready f2", "ready:")
}

// TestWatch: P10.2, late alarms, and runs of plans over readings.
func TestWatch(t *testing.T) {
	s := full(t)
	answers(t, s, "late w", "late: prop")
	answers(t, s, "run w r 60", "run: 12:alarm-prop 12:begin-prop 12:done-prop 15:alarm-strut 20:begin-strut 50:done-strut")
	answers(t, s, "run w r 19", "run: 12:alarm-prop 12:begin-prop 12:done-prop 15:alarm-strut")
	answers(t, s, "run w r 0", "run:")
	does(t, s, block("readings broken w", "sink a 5 9\nsink b 5 0\nsink c 5 4\n"))
	answers(t, s, "run w broken 5", "run: 5:broken-sink 5:alarm-strut 5:alarm-prop 5:begin-prop 5:done-prop")
	answers(t, s, "run w broken 10", "run: 5:broken-sink 5:alarm-strut 5:alarm-prop 5:begin-prop 5:done-prop 10:begin-strut")
	refuses(t, s, "run w r 100001", api.ErrArg)
	refuses(t, s, "run w r -1", api.ErrArg)
	refuses(t, s, "run w r 9999999999", api.ErrArg)
	refuses(t, s, "run w r -9999999999", api.ErrArg)
	does(t, s, block("readings back w", "sink a 5 9\nsink b 4 0\n"))
	refuses(t, s, "run w back 60", api.ErrState)
	does(t, s, block("readings never w", "sink a 100001 9\n"))
	refuses(t, s, "run w never 60", api.ErrArg)
	does(t, s, block("readings many w", strings.Repeat("sink a 5 9\n", 65)))
	refuses(t, s, "run w many 60", api.ErrLimit)
	// readings of another watch plan are those of the quantities and gauges with the same numbers
	does(t, s, block("watch v", "quantity heave 0 0 1 1 0\ngauge d 0 0 0\nmeasure pump gang 1 0 1\nmeasure drain band 1 0 1\nalarm heave 2 9 drain\n"))
	refuses(t, s, "run v r 60", api.ErrNone)
	answers(t, s, "late v", "late:")
	does(t, s, block("readings mine v", "heave d 3 1\n"))
	answers(t, s, "run v mine 9", "run: 2:alarm-drain 2:begin-drain 3:done-drain")
	does(t, s, block("readings theirs w", "sink a 1 1\n"))
	answers(t, s, "run v theirs 9", "run: 2:alarm-drain 2:begin-drain 3:done-drain")
	equal(t, "papers", len(s.Papers()), 0)
}

// TestSchedule: P10.2, schedules with their floors.
func TestSchedule(t *testing.T) {
	s := full(t)
	answers(t, s, "schedule j", "schedule: 10 of at least 9 [0]")
	does(t, s, block("job k", "resource crew 2\ntask a 3\nuses crew 1\ntask b 4\nuses crew 2\ntask c 3\nuses crew 1\n"))
	answers(t, s, "schedule k", "schedule: 7 of at least 7 [1]")
	does(t, s, block("job l", "resource crew 2\ntask a 3\nuses crew 1\ntask b 3\nuses crew 1\ntask c 4\nuses crew 2\ntask d 5\nneeds a\n"))
	answers(t, s, "schedule l", "schedule: 8 of at least 8 [2]")
	equal(t, "in the order of tasks", s.Papers()[2].Starts, []int{0, 0, 3, 3})
	does(t, s, block("job m", "task a 100000\n"))
	answers(t, s, "schedule m", "schedule: 100000 of at least 100000 [3]")
	does(t, s, block("job n", "task a 100000\ntask b 1\nneeds a\n"))
	refuses(t, s, "schedule n", api.ErrScope)
	does(t, s, block("job o", "resource r 1 0 100000\ntask a 1\nuses r 1\n"))
	refuses(t, s, "schedule o", api.ErrScope)
	answers(t, s, "audit", "audit: good 4")
}

// sealOf is the last seal of a record's text, by the library's FNV-1a.
func sealOf(text string) uint64 {
	last := uint64(0)
	for line := range strings.Lines(text) {
		h := fnv.New64a()
		for shift := 56; shift >= 0; shift -= 8 {
			h.Write([]byte{byte(last >> shift)})
		}
		h.Write([]byte(line))
		last = h.Sum64()
	}
	return last
}

// TestRecords: P10.2, seals, accounts, and what is contested.
func TestRecords(t *testing.T) {
	s := full(t)
	for name, text := range map[string]string{"f": recordText, "half": halfText, "fact": factText} {
		answers(t, s, "seal "+name, fmt.Sprintf("seal: %d", sealOf(text)))
	}
	for i := range 20 { // some seals are above all int64
		text := fmt.Sprintf("%d met clay ann 8\n", i)
		does(t, s, block(fmt.Sprintf("record s%d", i), text))
		answers(t, s, fmt.Sprintf("seal s%d", i), fmt.Sprintf("seal: %d", sealOf(text)))
	}
	for _, c := range []struct{ line, want string }{
		{"account c f 100", "account: 11 ground:due late:due"},
		{"account c f 49", "account: 9 ground:due late:quiet"},
		{"account c f 29", "account: 0 ground:open late:quiet"},
		{"account c f 8", "account: 0 ground:quiet late:quiet"},
		{"account c fact 100", "account: 1 ground:quiet late:due"},
		{"account c half 0", "account: 0 ground:quiet late:quiet"},
		{"between c half fact 100 ground", "between: 0 9"},
		{"between c half fact 100 late", "between: 1 2"},
		{"between c half half 100 ground", "between: 0 9"},
		{"between c f fact 100 ground", "between: 9 21"},
		{"between c fact half 20 ground", "between: 0 0"},
	} {
		answers(t, s, c.line, c.want)
	}
	s = full(t)
	does(t, s, block("record bare", "5 met clay ann 8\n9 met clay ann 8\n"))
	answers(t, s, "account c bare 69", "account: 2 ground:open late:due")
	answers(t, s, "account c bare 70", "account: 2 ground:barred late:due")
	does(t, s, block("contract low", "clause x 0 100 0\nwhen (= 1 1)\npay -5\nclause z 0 100 1000000000000\nwhen (= 1 1)\npay 1000000000000\nclause y 0 50 1000000000000\nwhen (= 1 1)\npay 1000000000000\n"))
	answers(t, s, "account low f 0", "account: 1500000000000 x:due z:due y:due")
	answers(t, s, "between low f fact 0 y", "between: 500000000000 500000000000")
	for _, now := range []string{"-1", "100001", "9999999999", "-9999999999"} {
		refuses(t, s, "account c f "+now, api.ErrArg)
		refuses(t, s, "between c f fact "+now+" ground", api.ErrArg)
		refuses(t, s, "between c f fact "+now+" zzz", api.ErrNone)
	}
	answers(t, s, "account c f 100000", "account: 11 ground:due late:due")
	does(t, s, block("record seven", strings.Repeat(factText, 7)))
	refuses(t, s, "between c half seven 100 ground", api.ErrLimit)
	answers(t, s, "between c seven half 100 ground", "between: 0 81")
	equal(t, "papers", len(s.Papers()), 0)
}

// TestAudit: P10.2, all papers of a site are good, and audit says how many there are.
func TestAudit(t *testing.T) {
	s := full(t)
	for i := range 12 {
		answers(t, s, "audit", fmt.Sprint("audit: good ", i))
		does(t, s, []string{"most g 1 b-1-0", "schedule j", "most no 1 b-1-0"}[i%3])
		equal(t, "papers", len(s.Papers()), i+1)
	}
	refuses(t, s, "schedule g", api.ErrNone)
	answers(t, s, "audit", "audit: good 12")
}

// TestDigIsValid: P10.6, a dig of a site is valid, and what has begun was proved.
func TestDigIsValid(t *testing.T) {
	s := full(t)
	for _, line := range []string{"verify d pit", "start d pit", "retract d bh", "finish d pit"} {
		does(t, s, line)
		d, is := s.Dig("d")
		equal(t, line, []any{is, stages.Check(d)}, []any{true, api.OK})
		for i, m := range d.Marks {
			if m.State >= api.SgBegun && !m.Shaken {
				for k, demand := range d.Plan.Stages[i].Demands {
					yes, e := exact.CheckImplied(rowsOf(t, d.Ground), demand, m.Proofs[k])
					equal(t, "proved", []any{yes, e}, []any{true, api.OK})
				}
			}
		}
	}
}
