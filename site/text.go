package site

import (
	"iter"
	"slices"
	"strconv"
	"strings"

	"underpin/api"
	"underpin/exact"
)

// maxDigits is how many digits a number of a text has at most.
const maxDigits = 10

// wrong is the error with which a text, or a line, is left.
type wrong struct{ e api.Errno }

// need leaves a text, or a line, with an error, unless something is as it must be.
func need(is bool, e api.Errno) {
	if !is {
		panic(wrong{e})
	}
}

// must leaves a text, or a line, with the error of a function that was called.
func must(e api.Errno) {
	need(e == api.OK, e)
}

// list returns a text and others behind it, with one blank between two of them.
func list(first string, others ...string) string {
	return strings.Join(slices.Concat([]string{first}, others), " ")
}

// isName tells whether a text is a name. Names of terms are names like all others, so that exact is asked.
func isName(text string) bool {
	_, e := exact.Sum([]api.Term{{Name: text, Coef: "1"}}, nil)
	return e == api.OK
}

// numberOf returns the number that a word says, if it says one.
func numberOf(word string) (int, bool) {
	n, err := strconv.Atoi(word)
	is := err == nil && strconv.Itoa(n) == word && len(strings.TrimPrefix(word, "-")) <= maxDigits
	return n, is
}

// numbersOf returns the numbers that words say: ErrForm if one of them says none.
func numbersOf(words []string) []int {
	return each(words, func(word string) int {
		n, is := numberOf(word)
		need(is, api.ErrForm)
		return n
	})
}

// numberIn returns the number of the first one of several names that is a word: ErrNone if none of them is.
func numberIn(names []string, word string) int {
	i := slices.Index(names, word)
	need(i >= 0, api.ErrNone)
	return i
}

// numbersIn returns these numbers for one word or more: ErrForm if there is none.
func numbersIn(names, words []string) []int {
	need(len(words) > 0, api.ErrForm)
	return each(words, func(word string) int { return numberIn(names, word) })
}

// each returns a list of what a function makes of the elements of a list.
func each[T, U any](list []T, of func(T) U) []U {
	var out []U
	for _, x := range list {
		out = append(out, of(x))
	}
	return out
}

// lines tells the lines of a text.
func lines(text string) iter.Seq[string] {
	return func(yield func(string) bool) {
		rest := text
		for rest != "" {
			var line string
			line, rest, _ = strings.Cut(rest, "\n")
			if !yield(line) {
				return
			}
		}
	}
}

// countLines returns how many lines a text has.
func countLines(text string) int {
	count := 0
	for range lines(text) {
		count++
	}
	return count
}

// wordsOf returns the words of a line: ErrForm if they have not just one blank between two of them.
func wordsOf(line string) []string {
	words := strings.Split(line, " ")
	need(!slices.Contains(words, ""), api.ErrForm)
	return words
}

// read hands the words of line after line to a function, and returns the number of the first line that is left with an
// error, and that.
func read(text string, take func(words []string)) (line int, e api.Errno) {
	if len(text) > api.MaxText {
		return 0, api.ErrLimit
	}
	defer func() {
		if w, left := recover().(wrong); left {
			e = w.e
		}
	}()
	for l := range lines(text) {
		line++
		take(wordsOf(l))
	}
	return 0, api.OK
}

// rank is where a line of a text stands among the others.
type rank int

const (
	headRank rank = iota // ahead of all items
	itemRank             // at the head of an item; what has a higher rank stands behind it, in the order of ranks
)

// form is a kind of lines: where they stand, whether an item may have many of them, and what reads the words behind the
// first one.
type form[T any] struct {
	rank rank
	many bool
	read func(draft *T, words []string)
}

// follows tells whether a line may stand behind one of a rank; ahead of the first line it is headRank.
func (f form[T]) follows(last rank) bool {
	switch f.rank {
	case headRank:
		return last == headRank
	case itemRank:
		return true
	}
	return last >= itemRank && (last < f.rank || last == f.rank && f.many)
}

// parse returns what the lines of a text say, or the line that is wrong.
func parse[T any](text string, forms map[string]form[T]) (out T, line int, e api.Errno) {
	var draft T
	last := headRank
	line, e = read(text, func(words []string) {
		f, listed := forms[words[0]]
		need(listed && f.follows(last), api.ErrForm)
		last = f.rank
		f.read(&draft, words[1:])
	})
	if e != api.OK {
		return out, line, e
	}
	return draft, 0, api.OK
}

// page is a text that is written line by line.
type page struct{ text strings.Builder }

// line writes a line.
func (p *page) line(first string, others ...string) {
	p.text.WriteString(list(first, others...) + "\n")
}

// lineOf writes a line, if it has anything to say behind its first word.
func (p *page) lineOf(first string, others []string) {
	if len(others) > 0 {
		p.line(first, others...)
	}
}

// all returns the text that was written: ErrLimit if it is too long.
func (p *page) all() (string, api.Errno) {
	if p.text.Len() > api.MaxText {
		return "", api.ErrLimit
	}
	return p.text.String(), api.OK
}
