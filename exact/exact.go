// Package exact is layer 1: it has exact numbers of great size, linear constraints on named unknowns, and linear programs whose answers carry proofs: that a value is the greatest one, that no point keeps all constraints, or that there is no greatest value. See shared/doc/01-exact.md.
package exact

import (
	"strconv"
	"strings"

	"underpin/api"
)

// Valid reports whether a text is a number (P1.1).
func Valid(a api.Frac) bool {
	_, ok := parse(a)
	return ok
}

// Read reads DIGITS, DIGITS/DIGITS or DIGITS.DIGITS, with `-` ahead or not (P1.1).
func Read(text string) (api.Frac, api.Errno) {
	rest, minus := strings.CutPrefix(text, "-")
	above, below, quotient := strings.Cut(rest, "/")
	before, behind, point := strings.Cut(rest, ".")
	if point && !quotient {
		above, below = before, behind
	}
	if !onlyDigits(above) || (quotient || point) && !onlyDigits(below) {
		return "", api.ErrForm
	}
	if len(above)+len(below) > api.MaxDigits {
		return "", api.ErrLimit
	}
	top, bottom := fromDigits(above), small(1)
	if quotient {
		bottom = fromDigits(below)
	} else if point {
		top, bottom = fromDigits(above+below), power(len(below))
	}
	if bottom.sign() == 0 {
		return "", api.ErrNone
	}
	if minus {
		top = top.negated()
	}
	return ratioOf(top, bottom).text()
}

// Int returns the number n (P1.1).
func Int(n int64) api.Frac {
	return api.Frac(strconv.FormatInt(n, 10))
}

// Add returns a + b (P1.2).
func Add(a, b api.Frac) (api.Frac, api.Errno) {
	return ofTwo(a, b, ratio.plus)
}

// Sub returns a - b (P1.2).
func Sub(a, b api.Frac) (api.Frac, api.Errno) {
	return ofTwo(a, b, ratio.less)
}

// Mul returns a * b (P1.2).
func Mul(a, b api.Frac) (api.Frac, api.Errno) {
	return ofTwo(a, b, ratio.times)
}

// Div returns a / b (P1.2).
func Div(a, b api.Frac) (api.Frac, api.Errno) {
	if b == "0" && Valid(a) {
		return "", api.ErrNone
	}
	return ofTwo(a, b, ratio.over)
}

// ofTwo returns what a calculation makes of two numbers.
func ofTwo(a, b api.Frac, calculate func(x, y ratio) ratio) (api.Frac, api.Errno) {
	x, right := parse(a)
	if !right {
		return "", api.ErrForm
	}
	y, right := parse(b)
	if !right {
		return "", api.ErrForm
	}
	return calculate(x, y).text()
}

// Products returns the sum of products, each of all the numbers of a list. As in Holds, only what comes out of it has a
// limit of digits: ErrForm if one of the numbers is none, ErrLimit if the sum has too many.
func Products(lists [][]api.Frac) (api.Frac, api.Errno) {
	numbers, sum := book{}, integer(small(0))
	for _, list := range lists {
		product := integer(small(1))
		for _, a := range list {
			x, right := numbers.read(a)
			if !right {
				return "", api.ErrForm
			}
			product = product.times(x)
		}
		sum = sum.plus(product)
	}
	return sum.text()
}

// Neg returns -a (P1.2).
func Neg(a api.Frac) (api.Frac, api.Errno) {
	return ofOne(a, ratio.negated)
}

// Floor returns the greatest integer that is at most a (P1.2).
func Floor(a api.Frac) (api.Frac, api.Errno) {
	return ofOne(a, ratio.floor)
}

// ofOne returns what a calculation makes of a number.
func ofOne(a api.Frac, calculate func(x ratio) ratio) (api.Frac, api.Errno) {
	x, right := parse(a)
	if !right {
		return "", api.ErrForm
	}
	return calculate(x).text()
}

// Cmp is -1, 0 or 1 as a is less than, equal to, or greater than b (P1.2).
func Cmp(a, b api.Frac) (int, api.Errno) {
	x, right := parse(a)
	if !right {
		return 0, api.ErrForm
	}
	y, right := parse(b)
	if !right {
		return 0, api.ErrForm
	}
	return x.compare(y), api.OK
}

// maxPlaces is how many digits Decimal writes behind the point at most.
const maxPlaces = 50

// Decimal writes the greatest multiple of 10^-places that is at most a (P1.3).
func Decimal(a api.Frac, places int) (string, api.Errno) {
	x, right := parse(a)
	if !right {
		return "", api.ErrForm
	}
	if places < 0 || places > maxPlaces {
		return "", api.ErrArg
	}
	units := x.top.times(power(places)).floorOver(x.bottom)
	text := units.digits()
	if missing := places + 1 - len(text); missing > 0 {
		text = strings.Repeat("0", missing) + text
	}
	if places > 0 {
		text = text[:len(text)-places] + "." + text[len(text)-places:]
	}
	if units.minus {
		text = "-" + text
	}
	return text, api.OK
}
