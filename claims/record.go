package claims

import (
	"strconv"
	"strings"

	"underpin/api"
)

// What seals are reckoned with.
const (
	sealStart = 14695981039346656037
	sealTimes = 1099511628211
)

// textOf returns the text of a fact.
func textOf(f api.Fact) string {
	words := []string{strconv.Itoa(f.Time), f.Kind, f.Item, f.By, strconv.FormatInt(f.Number, 10)}
	return strings.Join(words, " ") + "\n"
}

// sealOf returns the seal of a fact behind another seal.
func sealOf(ahead uint64, f api.Fact) uint64 {
	seal := uint64(sealStart)
	for shift := 56; shift >= 0; shift -= 8 {
		seal = (seal ^ ahead>>shift&0xff) * sealTimes
	}
	for _, b := range []byte(textOf(f)) {
		seal = (seal ^ uint64(b)) * sealTimes
	}
	return seal
}

// shared returns the facts of a record of which another one has as many, and those that are more. The first ones of equal
// facts are the shared ones.
func shared(l, other []api.Fact) (both, alone []api.Fact) {
	left := map[api.Fact]int{}
	for _, f := range other {
		left[f]++
	}
	for _, f := range l {
		if left[f] > 0 {
			left[f]--
			both = append(both, f)
		} else {
			alone = append(alone, f)
		}
	}
	return both, alone
}
