package settle

import (
	"strconv"

	"underpin/api"
	"underpin/exact"
)

// What comes of the numbers of beds and routes, which are few and short, has far less digits than numbers may have, so
// that nothing here has an error.

// total returns a sum of products of numbers.
func total(products ...[]api.Frac) api.Frac {
	out, _ := exact.Products(products)
	return out
}

// product returns a product of numbers.
func product(factors ...api.Frac) api.Frac {
	return total(factors)
}

// quotient returns a / b; b is not 0.
func quotient(a, b api.Frac) api.Frac {
	out, _ := exact.Div(a, b)
	return out
}

// whole returns a number.
func whole(n int) api.Frac {
	return exact.Int(int64(n))
}

// compare is -1, 0 or 1 as a is less than, equal to, or greater than b.
func compare(a, b api.Frac) int {
	c, _ := exact.Cmp(a, b)
	return c
}

// isLess tells whether a is less than b.
func isLess(a, b api.Frac) bool {
	return compare(a, b) < 0
}

// greater returns the greater one of two numbers.
func greater(a, b api.Frac) api.Frac {
	if isLess(a, b) {
		return b
	}
	return a
}

// numbered returns a name with a number of two digits: so names are in the order of their numbers.
func numbered(name string, i int) string {
	return name + "-" + strconv.Itoa(i/10) + strconv.Itoa(i%10)
}
