package limit

import (
	"maps"
	"slices"
	"strconv"

	"underpin/api"
	"underpin/exact"
)

// constant is the name under which a sum has what it has without unknowns: no unknown has it.
const constant = ""

// sum is a sum of multiples of unknowns. What comes of the numbers of a mesh, which are few and short, has far less
// digits than numbers may have, so that nothing here has an error.
type sum map[string]api.Frac

// add adds a product of numbers, times an unknown.
func (s sum) add(name string, factors ...api.Frac) {
	ahead, has := s[name]
	if !has {
		ahead = "0"
	}
	s[name], _ = exact.Add(ahead, product(factors...))
}

// opposite returns the sum times -1.
func (s sum) opposite() sum {
	out := sum{}
	for name, a := range s {
		out[name] = product("-1", a)
	}
	return out
}

// terms returns the multiples of unknowns that are not 0.
func (s sum) terms() []api.Term {
	var terms []api.Term
	for _, name := range slices.Sorted(maps.Keys(s)) {
		if name != constant && s[name] != "0" {
			terms = append(terms, api.Term{Name: name, Coef: s[name]})
		}
	}
	return terms
}

// atMostZero returns the row that says that the sum is at most 0.
func (s sum) atMostZero() api.Row {
	row := api.Row{Terms: s.terms(), Bound: "0"}
	if without, has := s[constant]; has {
		row.Bound = product("-1", without)
	}
	return row
}

// total returns a sum of products of numbers.
func total(products ...[]api.Frac) api.Frac {
	out, _ := exact.Products(products)
	return out
}

// product returns a product of numbers.
func product(factors ...api.Frac) api.Frac {
	return total(factors)
}

// quotient returns a / b; b is not 0.
func quotient(a, b api.Frac) api.Frac {
	out, _ := exact.Div(a, b)
	return out
}

// whole returns a number.
func whole(n int) api.Frac {
	return exact.Int(int64(n))
}

// numbered returns a name with a number of two digits: so names are in the order of their numbers.
func numbered(name string, i int) string {
	return name + "-" + strconv.Itoa(i/10) + strconv.Itoa(i%10)
}
