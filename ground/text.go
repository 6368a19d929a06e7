package ground

import (
	"slices"
	"strconv"
	"strings"

	"underpin/api"
	"underpin/exact"
)

// Print writes a ground (P2.8).
func Print(g api.Ground) (string, api.Errno) {
	if e := Check(g); e != api.OK {
		return "", e
	}
	var text strings.Builder
	line := func(words ...string) {
		text.WriteString(strings.Join(words, " ") + "\n")
	}
	places := []string{"stations"}
	for _, x := range g.Stations {
		places = append(places, strconv.Itoa(x))
	}
	line(places...)
	line("depth", string(g.Depth))
	for _, name := range g.Layers {
		line("layer", name)
	}
	for _, t := range g.Traits {
		line("trait", t.Name, string(t.Low), string(t.High))
	}
	for _, s := range g.Sayings {
		if said, listed := statementOf(s); listed {
			line(said.words(g)...)
		}
	}
	if text.Len() > api.MaxText {
		return "", api.ErrLimit
	}
	return text.String(), api.OK
}

// Parse reads a ground, and tells the first line that is wrong (P2.8).
func Parse(text string) (g api.Ground, line int, e api.Errno) {
	if len(text) > api.MaxText {
		return api.Ground{}, 0, api.ErrLimit
	}
	defer func() {
		if w, left := recover().(wrong); left {
			g, line, e = api.Ground{}, w.line, w.e
		}
	}()
	var r reader
	r.read(text)
	if e := Check(r.ground); e != api.OK {
		return api.Ground{}, 0, e
	}
	return r.ground, 0, api.OK
}

// wrong is what a text that goes wrong is left with.
type wrong struct {
	line int
	e    api.Errno
}

// rank is where lines stand in a text; lines of one rank stand in any order.
type rank int

const (
	stationsRank rank = iota
	depthRank
	layerRank // from here on lines may be missing, and may come again
	traitRank
	sayingRank
)

// lineKind is a kind of lines, with what reads the words behind the first one.
type lineKind struct {
	rank rank
	read func(r *reader, words []string)
}

// lineKinds returns the kinds of lines by their first words.
func lineKinds() map[string]lineKind {
	return map[string]lineKind{
		"stations": {stationsRank, (*reader).stations},
		"depth":    {depthRank, (*reader).depth},
		"layer":    {layerRank, (*reader).layer},
		"trait":    {traitRank, (*reader).trait},
		"top":      {sayingRank, (*reader).top},
		"value":    {sayingRank, (*reader).value},
		"row":      {sayingRank, (*reader).row},
	}
}

// reader reads the lines of a ground.
type reader struct {
	ground api.Ground
	line   int  // the number of the line that is read
	next   rank // the least rank that the line may have
}

// read reads all lines.
func (r *reader) read(text string) {
	kinds := lineKinds()
	for text != "" {
		var line string
		line, text, _ = strings.Cut(text, "\n")
		r.line++
		words := strings.Split(line, " ")
		kind, listed := kinds[words[0]]
		r.must(listed && !slices.Contains(words, ""))
		r.follow(kind.rank)
		kind.read(r, words[1:])
	}
	r.line = 0
	r.must(r.next >= layerRank)
}

// follow goes on to the rank of a line.
func (r *reader) follow(to rank) {
	r.must(to == r.next || to > r.next && r.next >= layerRank)
	r.next = to
	if to < layerRank {
		r.next++
	}
}

// leave ends reading.
func (r *reader) leave(e api.Errno) {
	panic(wrong{r.line, e})
}

// must leaves unless the line is right so far.
func (r *reader) must(right bool) {
	if !right {
		r.leave(api.ErrForm)
	}
}

func (r *reader) stations(words []string) {
	for _, word := range words {
		r.ground.Stations = append(r.ground.Stations, r.place(word))
	}
}

func (r *reader) depth(words []string) {
	r.must(len(words) == 1)
	r.ground.Depth = r.number(words[0])
}

func (r *reader) layer(words []string) {
	r.must(len(words) == 1)
	r.ground.Layers = append(r.ground.Layers, words[0])
}

func (r *reader) trait(words []string) {
	r.must(len(words) == 3)
	t := api.Trait{Name: words[0], Low: r.number(words[1]), High: r.number(words[2])}
	r.ground.Traits = append(r.ground.Traits, t)
}

func (r *reader) top(words []string) {
	r.must(len(words) == 5)
	s := api.Saying{Name: words[0], Kind: api.SaTop, X: r.place(words[1]), Low: r.number(words[3]), High: r.number(words[4])}
	s.Layer = r.layerOf(words[2])
	r.ground.Sayings = append(r.ground.Sayings, s)
}

func (r *reader) value(words []string) {
	r.must(len(words) == 5)
	s := api.Saying{Name: words[0], Kind: api.SaTrait, Trait: words[1], Low: r.number(words[3]), High: r.number(words[4])}
	s.Layer = r.layerOf(words[2])
	r.ground.Sayings = append(r.ground.Sayings, s)
}

func (r *reader) row(words []string) {
	r.must(len(words)%2 == 1 && len(words) >= 3)
	pairs, relation := words[1:len(words)-2], words[len(words)-2]
	r.must(relation == "<=")
	s := api.Saying{Name: words[0], Kind: api.SaRow, Row: api.Row{Bound: r.number(words[len(words)-1])}}
	for ; len(pairs) > 0; pairs = pairs[2:] {
		s.Row.Terms = append(s.Row.Terms, api.Term{Name: pairs[1], Coef: r.number(pairs[0])})
	}
	r.ground.Sayings = append(r.ground.Sayings, s)
}

// maxPlaceText is how far from 0 a place of a text is at most.
const maxPlaceText = 999999

// place returns the place that a word says.
func (r *reader) place(word string) int {
	x, err := strconv.Atoi(word)
	r.must(err == nil && strconv.Itoa(x) == word && x >= -maxPlaceText && x <= maxPlaceText)
	return x
}

// number returns the number that a word says.
func (r *reader) number(word string) api.Frac {
	a := api.Frac(word)
	r.must(exact.Valid(a))
	return a
}

// layerOf returns the number of the layer of a name. It is asked behind all that the form says, which decides first.
func (r *reader) layerOf(name string) int {
	layer := slices.Index(r.ground.Layers, name)
	if layer < 0 {
		r.leave(api.ErrNone)
	}
	return layer
}
