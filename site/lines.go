package site

import (
	"iter"
	"slices"
	"strings"

	"underpin/api"
	"underpin/exact"
)

// What is not a thing in the places of a line; words for kinds of things stand for things.
const (
	newPlace       = "NEW" // a name that nothing has yet
	namePlace      = "NAME"
	numberPlace    = "NUMBER"
	termsPlace     = "TERMS"     // all words from here on: pairs of a number and an unknown
	statementPlace = "STATEMENT" // all words from here on: a statement of a ground
)

// blockWord is the first word of a block, endLine its last line.
const (
	blockWord = "make"
	endLine   = "end"
)

// lineKind is a kind of lines, or of blocks: what stands in its places, and what does it.
type lineKind struct {
	places []string
	do     func(*turn) string
}

// lineKinds returns the kinds of lines by their first words, and those of blocks by their first two words.
func lineKinds() map[string]lineKind {
	of := func(do func(*turn) string, places ...string) lineKind { return lineKind{places, do} }
	return map[string]lineKind{
		"make ground":   of((*turn).makeGround, newPlace),
		"make plan":     of((*turn).makePlan, newPlace),
		"make watch":    of((*turn).makeWatch, newPlace),
		"make contract": of((*turn).makeContract, newPlace),
		"make record":   of((*turn).makeRecord, newPlace),
		"make job":      of((*turn).makeJob, newPlace),
		"make readings": of((*turn).makeReadings, newPlace, "watch"),
		"most":          of((*turn).most, "ground", termsPlace),
		"delta":         of((*turn).delta, "ground", "ground"),
		"dig":           of((*turn).newDig, newPlace, "ground", "plan"),
		"observe":       of((*turn).observe, "dig", statementPlace),
		"retract":       of((*turn).retract, "dig", namePlace),
		"verify":        of((*turn).verify, "dig", namePlace),
		"start":         of((*turn).start, "dig", namePlace),
		"finish":        of((*turn).finish, "dig", namePlace),
		"ready":         of((*turn).ready, "dig"),
		"late":          of((*turn).late, "watch"),
		"run":           of((*turn).run, "watch", "readings", numberPlace),
		"schedule":      of((*turn).schedule, "job"),
		"seal":          of((*turn).seal, "record"),
		"account":       of((*turn).account, "contract", "record", numberPlace),
		"between":       of((*turn).between, "contract", "record", "record", numberPlace, namePlace),
		"audit":         of((*turn).audit),
	}
}

// fits tells whether words stand in the places of a line.
func fits(places, words []string) bool {
	for _, place := range places {
		if len(words) == 0 {
			return false
		}
		switch place {
		case termsPlace:
			return areTerms(words)
		case statementPlace:
			return true
		case numberPlace:
			if _, is := numberOf(words[0]); !is {
				return false
			}
		default:
			if !isName(words[0]) {
				return false
			}
		}
		words = words[1:]
	}
	return len(words) == 0
}

// areTerms tells whether words are pairs of a number and any word.
func areTerms(words []string) bool {
	for i := 0; i < len(words); i += 2 {
		if !exact.Valid(api.Frac(words[i])) {
			return false
		}
	}
	return len(words)%2 == 0
}

// turn is a line, or a block, that is done in a site, with the things that it names.
type turn struct {
	site  *Site
	words []string // those in the places of the line, or of the first line of the block
	text  string   // of the block
	things
}

// read reads a line or a block, and returns its kind: ErrForm if it is neither.
func (t *turn) read(text string) lineKind {
	first, rest, isBlock := strings.Cut(strings.TrimSuffix(text, "\n"), "\n")
	words := wordsOf(first)
	kind := words[0]
	t.words = words[1:]
	if isBlock {
		need(kind == blockWord && len(t.words) > 0, api.ErrForm)
		kind = list(kind, t.words[0])
		t.words = t.words[1:]
		t.text = textOf(rest)
	}
	k, listed := lineKinds()[kind]
	need(listed && fits(k.places, t.words), api.ErrForm)
	return k
}

// textOf returns the text of a block, of the lines behind its first one: ErrForm if not just the last one of them is its end.
func textOf(rest string) string {
	body := strings.Split(rest, "\n")
	last := len(body) - 1
	need(slices.Index(body, endLine) == last, api.ErrForm)
	var out page
	for _, line := range body[:last] {
		out.line(line)
	}
	return out.text.String()
}

// find finds the things that the line names, and room for the one that it makes.
func (t *turn) find(places []string) {
	makes := slices.Contains(places, newPlace) // it is the first place then
	need(!makes || t.site.place(t.words[0]) < 0, api.ErrTwice)
	for i, place := range places {
		switch place {
		case newPlace, namePlace, numberPlace, termsPlace, statementPlace:
			continue
		}
		k := t.site.place(t.words[i])
		need(k >= 0 && t.site.named[k].thing.kind() == place, api.ErrNone)
		t.take(t.site.named[k].thing)
	}
	need(!makes || len(t.site.named) < api.MaxThings, api.ErrLimit)
}

// pieces tells the lines and the blocks of a script: ErrForm behind the last one if a block lacks its end.
func pieces(script string) iter.Seq[string] {
	return func(yield func(string) bool) {
		var block []string // the lines of a block whose end has not come yet
		for line := range lines(script) {
			switch {
			case len(block) > 0:
				block = append(block, line)
				if line != endLine {
					continue
				}
				line, block = strings.Join(block, "\n"), nil
			case line == blockWord, strings.HasPrefix(line, blockWord+" "):
				block = []string{line}
				continue
			case line == "", strings.HasPrefix(line, "#"):
				continue
			}
			if !yield(line) {
				return
			}
		}
		need(len(block) == 0, api.ErrForm)
	}
}
