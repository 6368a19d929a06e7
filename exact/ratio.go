package exact

import (
	"strings"

	"underpin/api"
)

// ratio is a number in lowest terms; bottom is above 0.
type ratio struct {
	top, bottom whole
}

// ratioOf returns top / bottom in lowest terms; bottom is above 0.
func ratioOf(top, bottom whole) ratio {
	if bottom.isOne() {
		return ratio{top, bottom}
	}
	if g := common(top, bottom); !g.isOne() {
		top, bottom = top.over(g), bottom.over(g)
	}
	return ratio{top, bottom}
}

// integer returns x as a ratio.
func integer(x whole) ratio {
	return ratio{x, small(1)}
}

// plus returns x + y. Only a divisor of what both bottoms have in common can be cancelled in the sum.
func (x ratio) plus(y ratio) ratio {
	g := common(x.bottom, y.bottom)
	left, right := x.bottom.over(g), y.bottom.over(g)
	top := x.top.times(right).plus(y.top.times(left))
	h := common(top, g)
	return ratio{top.over(h), left.times(y.bottom.over(h))}
}

// less returns x - y.
func (x ratio) less(y ratio) ratio {
	return x.plus(y.negated())
}

// times returns x * y.
func (x ratio) times(y ratio) ratio {
	g, h := common(x.top, y.bottom), common(y.top, x.bottom)
	return ratio{x.top.over(g).times(y.top.over(h)), x.bottom.over(h).times(y.bottom.over(g))}
}

// inverse returns 1 / x; x is not 0.
func (x ratio) inverse() ratio {
	if x.top.minus {
		return ratio{x.bottom.negated(), x.top.negated()}
	}
	return ratio{x.bottom, x.top}
}

// over returns x / y; y is not 0.
func (x ratio) over(y ratio) ratio {
	return x.times(y.inverse())
}

// negated returns -x.
func (x ratio) negated() ratio {
	return ratio{x.top.negated(), x.bottom}
}

// floor returns the greatest integer that is at most x.
func (x ratio) floor() ratio {
	return integer(x.top.floorOver(x.bottom))
}

// compare is -1, 0 or 1 as x is less than, equal to, or greater than y.
func (x ratio) compare(y ratio) int {
	return x.top.times(y.bottom).compare(y.top.times(x.bottom))
}

// sign is -1, 0 or 1.
func (x ratio) sign() int {
	return x.top.sign()
}

// parse reads a number; it reports false if the text is none.
func parse(a api.Frac) (ratio, bool) {
	text, minus := strings.CutPrefix(string(a), "-")
	above, below, split := strings.Cut(text, "/")
	if !plain(above) || minus && above == "0" || split && !plain(below) {
		return ratio{}, false
	}
	top := fromDigits(above)
	if minus {
		top = top.negated()
	}
	if !split {
		return integer(top), true
	}
	bottom := fromDigits(below)
	if bottom.compare(small(1)) <= 0 {
		return ratio{}, false
	}
	if !common(top, bottom).isOne() {
		return ratio{}, false
	}
	return ratio{top, bottom}, true
}

// plain tells whether a text is digits, not too many, without leading zeros.
func plain(text string) bool {
	return onlyDigits(text) && len(text) <= api.MaxDigits && (text[0] != '0' || len(text) == 1)
}

// onlyDigits tells whether a text is one digit or more.
func onlyDigits(text string) bool {
	for _, c := range []byte(text) {
		if c < '0' || c > '9' {
			return false
		}
	}
	return text != ""
}

// maxBits is more binary digits than a number with MaxDigits decimal ones has.
const maxBits = api.MaxDigits * 10 / 3

// text writes a number: ErrLimit if it has too many digits.
func (x ratio) text() (api.Frac, api.Errno) {
	if x.top.bitLength() > maxBits || x.bottom.bitLength() > maxBits {
		return "", api.ErrLimit
	}
	digits := x.top.digits()
	if len(digits) > api.MaxDigits {
		return "", api.ErrLimit
	}
	if x.top.minus {
		digits = "-" + digits
	}
	if x.bottom.isOne() {
		return api.Frac(digits), api.OK
	}
	below := x.bottom.digits()
	if len(below) > api.MaxDigits {
		return "", api.ErrLimit
	}
	return api.Frac(digits + "/" + below), api.OK
}

// inputSize tells whether a number has at most MaxInput digits above and below.
func inputSize(a api.Frac) bool {
	above, below, _ := strings.Cut(strings.TrimPrefix(string(a), "-"), "/")
	return len(above) <= api.MaxInput && len(below) <= api.MaxInput
}

// book keeps numbers that were read, by their texts: rows say few different ones, many times.
type book map[api.Frac]ratio

// read reads a number; it reports false if the text is none.
func (b book) read(a api.Frac) (ratio, bool) {
	if x, known := b[a]; known {
		return x, true
	}
	x, ok := parse(a)
	if ok {
		b[a] = x
	}
	return x, ok
}

// known returns a number that was looked at before.
func (b book) known(a api.Frac) ratio {
	x, _ := b.read(a)
	return x
}

// inputText writes a number of a row: ErrLimit if it has too many digits for one.
func (x ratio) inputText() (api.Frac, api.Errno) {
	text, e := x.text()
	if e == api.OK && !inputSize(text) {
		return "", api.ErrLimit
	}
	return text, e
}
