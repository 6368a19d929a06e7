package exact

import (
	"math/bits"
	"strconv"
)

// whole is an integer of any size. Its words are never changed behind its making. 0 is not minus.
type whole struct {
	minus bool
	size  cells[uint64]
}

// wholeOf returns the integer with these words, of which it keeps none.
func wholeOf(minus bool, words []uint64) whole {
	words = trim(words)
	var z whole
	copy(z.size.room(len(words)), words)
	z.minus = minus && len(words) > 0
	return z
}

// finish makes the integer z right behind a calculation that has written its words.
func (z *whole) finish(minus bool) {
	z.size.cut(len(trim(z.size.list())))
	z.minus = minus && z.size.used > 0
}

// small returns the integer n.
func small(n int) whole {
	if n < 0 {
		return wholeOf(true, []uint64{uint64(-n)})
	}
	return wholeOf(false, []uint64{uint64(n)})
}

// sign is -1, 0 or 1.
func (x whole) sign() int {
	if x.size.used == 0 {
		return 0
	}
	if x.minus {
		return -1
	}
	return 1
}

// isOne tells whether x is 1.
func (x whole) isOne() bool {
	return x.size.used == 1 && !x.minus && x.size.list()[0] == 1
}

// negated returns -x.
func (x whole) negated() whole {
	x.minus = !x.minus && x.size.used > 0
	return x
}

// positive returns x without its sign.
func (x whole) positive() whole {
	x.minus = false
	return x
}

// plus returns x + y.
func (x whole) plus(y whole) whole {
	a, b := x.size.list(), y.size.list()
	var z whole
	if x.minus == y.minus {
		addWords(z.size.room(max(len(a), len(b))+1), a, b)
		z.finish(x.minus)
		return z
	}
	minus := x.minus
	if compareWords(a, b) < 0 {
		a, b, minus = b, a, y.minus
	}
	subWords(z.size.room(len(a)), a, b)
	z.finish(minus)
	return z
}

// less returns x - y.
func (x whole) less(y whole) whole {
	return x.plus(y.negated())
}

// times returns x * y.
func (x whole) times(y whole) whole {
	if x.isOne() {
		return y
	}
	if y.isOne() {
		return x
	}
	var z whole
	a, b := x.size.list(), y.size.list()
	if len(a) == 0 || len(b) == 0 {
		return z
	}
	addProduct(z.size.room(len(a)+len(b)), a, b)
	z.finish(x.minus != y.minus)
	return z
}

// over returns x / d, which is known to be an integer; d is not 0.
func (x whole) over(d whole) whole {
	if d.isOne() {
		return x
	}
	a, b := x.size.list(), d.size.list()
	if len(b) == 1 {
		var z whole
		divideWord(z.size.room(len(a)), a, b[0])
		z.finish(x.minus != d.minus)
		return z
	}
	quotient, _ := divide(a, b)
	return wholeOf(x.minus != d.minus, quotient)
}

// floorOver returns the greatest integer that is at most x / d; d is above 0.
func (x whole) floorOver(d whole) whole {
	quotient, rest := divide(x.size.list(), d.size.list())
	z := wholeOf(x.minus, quotient)
	if x.minus && len(rest) > 0 {
		return z.less(small(1))
	}
	return z
}

// compare is -1, 0 or 1 as x is less than, equal to, or greater than y.
func (x whole) compare(y whole) int {
	if s, t := x.sign(), y.sign(); s != t {
		if s < t {
			return -1
		}
		return 1
	}
	c := compareWords(x.size.list(), y.size.list())
	if x.minus {
		return -c
	}
	return c
}

// common returns the greatest common divisor of x and y, which is above 0 if one of them is not 0.
func common(x, y whole) whole {
	a, b := x.size.list(), y.size.list()
	switch {
	case len(a) == 0:
		return y.positive()
	case len(b) == 0:
		return x.positive()
	case len(a) == 1 && len(b) == 1:
		return wholeOf(false, []uint64{commonWord(a[0], b[0])})
	}
	return wholeOf(false, commonWords(append([]uint64(nil), a...), append([]uint64(nil), b...)))
}

// power returns 10^n.
func power(n int) whole {
	z := []uint64{1}
	for ; n >= wordDigits; n -= wordDigits {
		z = timesPlus(z, wordPower, 0)
	}
	for ; n > 0; n-- {
		z = timesPlus(z, 10, 0)
	}
	return wholeOf(false, z)
}

// A word takes wordDigits decimal digits; wordPower is 10^wordDigits.
const (
	wordDigits = 19
	wordPower  = 10_000_000_000_000_000_000
)

// fromDigits returns the number that decimal digits say.
func fromDigits(text string) whole {
	var z []uint64
	for len(text) > 0 {
		n := min(wordDigits, len(text))
		var word, unit uint64 = 0, 1
		for _, c := range []byte(text[:n]) {
			word, unit = word*10+uint64(c-'0'), unit*10
		}
		z = timesPlus(z, unit, word)
		text = text[n:]
	}
	return wholeOf(false, z)
}

// digits returns the decimal digits of x, without its sign.
func (x whole) digits() string {
	words := x.size.list()
	if len(words) <= 1 {
		var only uint64
		for _, w := range words {
			only = w
		}
		return strconv.FormatUint(only, 10)
	}
	tower := [][]uint64{{wordPower}}
	for top := tower[0]; 2*len(top) <= len(words)+1; tower = append(tower, top) {
		top = trim(addProduct(nil, top, top))
	}
	return string(appendDigits(nil, words, tower))
}

// appendDigits writes the digits of x behind text, all that fit below the square of the tower's top, or, if text is
// empty, without zeros ahead. Halves of a number are far cheaper to divide than words to take off one by one.
func appendDigits(text []byte, x []uint64, tower [][]uint64) []byte {
	if len(tower) == 0 {
		return appendWord(text, x)
	}
	top := len(tower) - 1
	upper, lower := divide(x, tower[top])
	if len(upper) > 0 || len(text) > 0 {
		text = appendDigits(text, upper, tower[:top])
	}
	return appendDigits(text, lower, tower[:top])
}

// appendWord writes the digits of x, of at most one word, as appendDigits does.
func appendWord(text []byte, x []uint64) []byte {
	var word uint64
	for _, w := range x {
		word = w
	}
	digits := strconv.FormatUint(word, 10)
	if len(text) > 0 {
		for range wordDigits - len(digits) {
			text = append(text, '0')
		}
	} else if word == 0 {
		return text
	}
	return append(text, digits...)
}

// bitLength is how many binary digits x has.
func (x whole) bitLength() int {
	words := x.size.list()
	if len(words) == 0 {
		return 0
	}
	return 64*len(words) - bits.LeadingZeros64(words[len(words)-1])
}

// tally adds up products. What comes on and what goes off stand apart, so that nothing is borrowed until the end.
type tally struct {
	on, off []uint64
}

// add adds x * y.
func (t *tally) add(x, y whole) {
	if x.minus == y.minus {
		t.on = addProduct(t.on, x.size.list(), y.size.list())
		return
	}
	t.off = addProduct(t.off, x.size.list(), y.size.list())
}

// take takes x * y off.
func (t *tally) take(x, y whole) {
	if x.minus != y.minus {
		t.on = addProduct(t.on, x.size.list(), y.size.list())
		return
	}
	t.off = addProduct(t.off, x.size.list(), y.size.list())
}

// sum returns what was added up, and begins again.
func (t *tally) sum() whole {
	on, off := trim(t.on), trim(t.off)
	minus := compareWords(on, off) < 0
	if minus {
		on, off = off, on
	}
	var z whole
	subWords(z.size.room(len(on)), on, off)
	z.finish(minus)
	t.on, t.off = t.on[:0], t.off[:0]
	return z
}
