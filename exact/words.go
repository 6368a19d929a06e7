package exact

import "math/bits"

// A size is written as words, the least one first. Sizes that functions here take and return have no zero word at the
// upper end, unless it is said.

// trim cuts off zero words at the upper end.
func trim(x []uint64) []uint64 {
	n := len(x)
	for n > 0 && x[n-1] == 0 {
		n--
	}
	return x[:n]
}

// compareWords is -1, 0 or 1 as x is less than, equal to, or greater than y.
func compareWords(x, y []uint64) int {
	if len(x) != len(y) {
		if len(x) < len(y) {
			return -1
		}
		return 1
	}
	for i := len(x) - 1; i >= 0; i-- {
		if x[i] != y[i] {
			if x[i] < y[i] {
				return -1
			}
			return 1
		}
	}
	return 0
}

// addWords writes x + y to z, which has a word more than the longer one of both.
func addWords(z, x, y []uint64) {
	if len(x) < len(y) {
		x, y = y, x
	}
	var carry uint64
	for i, w := range x {
		var v uint64
		if i < len(y) {
			v = y[i]
		}
		z[i], carry = bits.Add64(w, v, carry)
	}
	z[len(x)] = carry
}

// subWords writes x - y to z, which is as long as x; y is at most x.
func subWords(z, x, y []uint64) {
	var borrow uint64
	for i, w := range x {
		var v uint64
		if i < len(y) {
			v = y[i]
		}
		z[i], borrow = bits.Sub64(w, v, borrow)
	}
}

// addTimes adds x times m to the first words of z, and returns what is carried out of them.
func addTimes(z, x []uint64, m uint64) uint64 {
	var carry uint64
	z = z[:len(x)]
	for i, w := range x {
		high, low := bits.Mul64(w, m)
		low, c := bits.Add64(low, z[i], 0)
		high += c
		low, c = bits.Add64(low, carry, 0)
		z[i], carry = low, high+c
	}
	return carry
}

// subTimes takes x times m off the first words of z, and returns what is borrowed behind them.
func subTimes(z, x []uint64, m uint64) uint64 {
	var borrow uint64
	z = z[:len(x)]
	for i, w := range x {
		high, low := bits.Mul64(w, m)
		low, c := bits.Add64(low, borrow, 0)
		high += c
		z[i], c = bits.Sub64(z[i], low, 0)
		borrow = high + c
	}
	return borrow
}

// addProduct adds x times y to z, which grows as it must, and returns it; z may have zero words at the upper end.
func addProduct(z, x, y []uint64) []uint64 {
	if len(x) < len(y) {
		x, y = y, x
	}
	if len(y) == 0 {
		return z
	}
	for len(z) < len(x)+len(y) {
		z = append(z, 0)
	}
	for i, m := range y {
		carry := addTimes(z[i:], x, m)
		for j := i + len(x); carry != 0; j++ {
			if j == len(z) {
				z = append(z, 0)
			}
			z[j], carry = bits.Add64(z[j], carry, 0)
		}
	}
	return z
}

// timesPlus multiplies z by m, adds a, and returns it, longer by a word if that is carried.
func timesPlus(z []uint64, m, a uint64) []uint64 {
	carry := a
	for i, w := range z {
		high, low := bits.Mul64(w, m)
		low, c := bits.Add64(low, carry, 0)
		z[i], carry = low, high+c
	}
	if carry != 0 {
		z = append(z, carry)
	}
	return z
}

// divideWord writes x divided by d to q, which is as long as x, and returns the rest.
func divideWord(q, x []uint64, d uint64) uint64 {
	var rest uint64
	for i := len(x) - 1; i >= 0; i-- {
		q[i], rest = bits.Div64(rest, x[i], d)
	}
	return rest
}

// shiftUp writes x times 2^n to z, which is as long as x, and returns what is pushed out; n is below 64.
func shiftUp(z, x []uint64, n uint) uint64 {
	var out uint64
	for i, w := range x {
		z[i] = w<<n | out
		out = w >> (64 - n)
	}
	return out
}

// shiftDown writes x divided by 2^n to z, which is as long as x; n is below 64.
func shiftDown(z, x []uint64, n uint) {
	var in uint64
	for i := len(x) - 1; i >= 0; i-- {
		w := x[i]
		z[i] = w>>n | in
		in = w << (64 - n)
	}
}

// divide returns x divided by y, which is not 0, and the rest, in new memory.
func divide(x, y []uint64) (quotient, rest []uint64) {
	if compareWords(x, y) < 0 {
		return nil, append(rest, x...)
	}
	if len(y) == 1 {
		quotient = make([]uint64, len(x))
		r := divideWord(quotient, x, y[0])
		return trim(quotient), trim([]uint64{r})
	}
	// The divisor's upper bit is set, so that a guess from two of its words is too great by 1 at most.
	n := uint(bits.LeadingZeros64(y[len(y)-1]))
	d := make([]uint64, len(y))
	shiftUp(d, y, n)
	rest = make([]uint64, len(x)+1)
	rest[len(x)] = shiftUp(rest[:len(x)], x, n)
	quotient = make([]uint64, len(x)-len(y)+1)
	for i := len(quotient) - 1; i >= 0; i-- {
		quotient[i] = divideStep(rest[i:i+len(y)+1], d)
	}
	rest = rest[:len(y)]
	shiftDown(rest, rest, n)
	return trim(quotient), trim(rest)
}

// divideStep takes d off x as often as it can, and returns how often. The upper bit of d, of two words or more, is set;
// x is a word longer, and less than d would be, moved up by a word.
func divideStep(x, d []uint64) uint64 {
	n := len(d)
	guess := guessStep(x[n], x[n-1], x[n-2], d[n-1], d[n-2])
	if borrow := subTimes(x[:n], d, guess); x[n] < borrow {
		guess--
		var carry uint64
		for i, w := range d {
			x[i], carry = bits.Add64(x[i], w, carry)
		}
	}
	x[n] = 0
	return guess
}

// guessStep returns how often the words d1 d0 go into the words x2 x1 x0, or one less than 2^64 if they go more often.
func guessStep(x2, x1, x0, d1, d0 uint64) uint64 {
	if x2 >= d1 {
		return ^uint64(0)
	}
	guess, rest := bits.Div64(x2, x1, d1)
	high, low := bits.Mul64(guess, d0)
	for high > rest || high == rest && low > x0 {
		guess--
		before := rest
		rest += d1
		if rest < before {
			break
		}
		var borrow uint64
		low, borrow = bits.Sub64(low, d0, 0)
		high -= borrow
	}
	return guess
}
