package exact

import "math/bits"

// commonWord returns the greatest common divisor of two words.
func commonWord(x, y uint64) uint64 {
	for y != 0 {
		x, y = y, x%y
	}
	return x
}

// commonWords returns the greatest common divisor of two sizes, both of which it uses up.
func commonWords(x, y []uint64) []uint64 {
	if compareWords(x, y) < 0 {
		x, y = y, x
	}
	spare := make([]uint64, 2*len(x))
	for len(y) > 1 {
		t := turnOf(x, y)
		if t.ofY == 0 {
			_, rest := divide(x, y)
			x, y = y, rest
			continue
		}
		nextX, nextY := spare[:len(x)], spare[len(x):2*len(x)]
		t.apply(nextX, nextY, x, y)
		copy(x, nextX)
		y = y[:copy(y, nextY)]
		x, y = trim(x), trim(y)
	}
	if len(y) == 0 {
		return x
	}
	rest := divideWord(make([]uint64, len(x)), x, y[0])
	return []uint64{commonWord(y[0], rest)}
}

// turn is many steps of Euclid's way at once: two numbers are replaced by sums of multiples of both.
// The signs alternate with each step, so that they need not stand with the factors.
type turn struct {
	ofX, ofY     uint64 // the greater number becomes ofX * x - ofY * y, or, if odd, minus that
	onX, onY     uint64 // the lesser one becomes onY * y - onX * x, or, if odd, minus that
	odd          bool
	thenX, thenY uint64 // the factors of one step more: they tell whether that would still be certain
}

// turnOf finds the steps that the upper words of x and y make certain (Collins's test as Jebelean gives it); x is at
// least y, and y has two words or more.
func turnOf(x, y []uint64) turn {
	n := len(x)
	up := uint(bits.LeadingZeros64(x[n-1]))
	a := x[n-1]<<up | x[n-2]>>(64-up)
	var b uint64
	switch len(y) {
	case n:
		b = y[n-1]<<up | y[n-2]>>(64-up)
	case n - 1:
		b = y[n-2] >> (64 - up)
	}
	t := turn{onX: 1, thenY: 1, odd: true}
	for b >= t.thenY && a-b >= t.onY+t.thenY {
		q := a / b
		a, b = b, a%b
		t.ofX, t.onX, t.thenX = t.onX, t.thenX, t.onX+q*t.thenX
		t.ofY, t.onY, t.thenY = t.onY, t.thenY, t.onY+q*t.thenY
		t.odd = !t.odd
	}
	return t
}

// apply writes both numbers that come of x and y, each as long as x.
func (t turn) apply(nextX, nextY, x, y []uint64) {
	if t.odd {
		lessTimes(nextX, y, t.ofY, x, t.ofX)
		lessTimes(nextY, x, t.onX, y, t.onY)
		return
	}
	lessTimes(nextX, x, t.ofX, y, t.ofY)
	lessTimes(nextY, y, t.onY, x, t.onX)
}

// lessTimes writes x times a less y times b, which is not below 0, to z; x and y are at most as long as z.
func lessTimes(z, x []uint64, a uint64, y []uint64, b uint64) {
	var carryX, carryY, borrow uint64
	for i := range z {
		var highX, lowX, highY, lowY, c uint64
		if i < len(x) {
			highX, lowX = bits.Mul64(x[i], a)
		}
		if i < len(y) {
			highY, lowY = bits.Mul64(y[i], b)
		}
		lowX, c = bits.Add64(lowX, carryX, 0)
		carryX = highX + c
		lowY, c = bits.Add64(lowY, carryY, 0)
		carryY = highY + c
		z[i], borrow = bits.Sub64(lowX, lowY, borrow)
	}
}
