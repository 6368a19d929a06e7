package water

import (
	"underpin/api"
	"underpin/exact"
)

// amount is a number that is reckoned with. What comes of the numbers of a net, which are few and short, has far less
// digits than numbers may have, so that its methods have no errors.
type amount api.Frac

// plus returns x + y.
func (x amount) plus(y amount) amount {
	sum, _ := exact.Add(api.Frac(x), api.Frac(y))
	return amount(sum)
}

// less returns x - y.
func (x amount) less(y amount) amount {
	rest, _ := exact.Sub(api.Frac(x), api.Frac(y))
	return amount(rest)
}

// times returns x * y.
func (x amount) times(y amount) amount {
	product, _ := exact.Mul(api.Frac(x), api.Frac(y))
	return amount(product)
}

// over returns x / y; y is not 0.
func (x amount) over(y amount) amount {
	quotient, _ := exact.Div(api.Frac(x), api.Frac(y))
	return amount(quotient)
}

// isZero tells whether x is 0.
func (x amount) isZero() bool {
	return x == "0"
}

// amounts returns numbers to reckon with.
func amounts(numbers []api.Frac) []amount {
	var out []amount
	for _, a := range numbers {
		out = append(out, amount(a))
	}
	return out
}

// fracs returns numbers to tell.
func fracs(numbers []amount) []api.Frac {
	var out []api.Frac
	for _, x := range numbers {
		out = append(out, api.Frac(x))
	}
	return out
}
