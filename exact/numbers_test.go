package exact_test

import (
	"math"
	"math/big"
	"math/rand"
	"strings"
	"testing"

	"underpin/api"
	"underpin/exact"
)

// most is the greatest integer that is a number.
var most = strings.Repeat("9", api.MaxDigits)

// TestValid: P1.1.
func TestValid(t *testing.T) {
	for _, a := range []string{"0", "1", "-1", "22/7", "-22/7", "1/2", "10", "100/3", most, "-" + most, "1/" + most, "18446744073709551616/18446744073709551617"} {
		if !exact.Valid(api.Frac(a)) {
			t.Errorf("%.40q is a number", a)
		}
	}
	for _, a := range []string{"", "-", "-0", "00", "01", "-01", "+1", " 1", "1 ", "1.5", "1e3", "--1", "1-", "a", "1a", "/", "1/", "/2", "-/2", "0/1", "0/5", "5/1", "5/0", "5/00", "5/05", "5/-3", "2/4", "-6/3", "1/2/3", "1//2", "\x00", "½", "٣", most + "0", "1/1" + strings.Repeat("0", api.MaxDigits), "36893488147419103232/36893488147419103234"} {
		if exact.Valid(api.Frac(a)) {
			t.Errorf("%.40q is no number", a)
		}
	}
}

// TestRead: P1.1.
func TestRead(t *testing.T) {
	for text, want := range map[string]api.Frac{
		"0": "0", "-0": "0", "000": "0", "0.000": "0", "-0.0": "0", "0/7": "0", "-0/7": "0",
		"007": "7", "-007": "-7", "1.50": "3/2", "-1.50": "-3/2", "01.5": "3/2", "0.125": "1/8", "2.0": "2",
		"6/4": "3/2", "-6/4": "-3/2", "006/004": "3/2", "10/5": "2", "-3/1": "-3",
		"18446744073709551615": "18446744073709551615", "18446744073709551616": "18446744073709551616",
		"0.00000000000000000001": "1/100000000000000000000", most: api.Frac(most), "-" + most: api.Frac("-" + most),
	} {
		a, e := exact.Read(text)
		if e != api.OK || a != want {
			t.Errorf("%.40q: %.40q %v", text, a, e)
		}
	}
	long := strings.Repeat("0", api.MaxDigits)
	for text, want := range map[string]api.Errno{
		"": api.ErrForm, "-": api.ErrForm, "+1": api.ErrForm, "--1": api.ErrForm, " 1": api.ErrForm, "1 ": api.ErrForm,
		".5": api.ErrForm, "1.": api.ErrForm, "1/": api.ErrForm, "/1": api.ErrForm, "1/2/3": api.ErrForm, "1.2.3": api.ErrForm,
		"1.5/2": api.ErrForm, "1/2.5": api.ErrForm, "1/-2": api.ErrForm, "1.-5": api.ErrForm, "1e5": api.ErrForm, "0x1": api.ErrForm, "٣": api.ErrForm,
		"1/0": api.ErrNone, "0/0": api.ErrNone, "-1/000": api.ErrNone,
		"0" + long: api.ErrLimit, "1/" + long: api.ErrLimit, "1." + long: api.ErrLimit, long + "x": api.ErrForm, long + "0/": api.ErrForm,
	} {
		a, e := exact.Read(text)
		if e != want || a != "" {
			t.Errorf("%.40q: %.40q %v", text, a, e)
		}
	}
	if a, e := exact.Read(long[1:] + "/0"); e != api.ErrNone || a != "" {
		t.Error("many zeros over 0:", e)
	}
	if a, e := exact.Read("0." + strings.Repeat("0", api.MaxDigits-2) + "1"); e != api.OK || a != api.Frac("1/1"+strings.Repeat("0", api.MaxDigits-1)) {
		t.Error("the least number that is a point and digits:", e)
	}
}

// TestInt: P1.1.
func TestInt(t *testing.T) {
	for n, want := range map[int64]api.Frac{0: "0", 7: "7", -7: "-7", math.MaxInt64: "9223372036854775807", math.MinInt64: "-9223372036854775808"} {
		if a := exact.Int(n); a != want || !exact.Valid(a) {
			t.Error(n, a)
		}
	}
}

// randomNumber makes numbers of up to n digits above and below, often with long runs of 0 and 9, and with words that
// are full or empty in binary.
func randomNumber(r *rand.Rand, n int) *big.Rat {
	part := func() *big.Int {
		x := new(big.Int)
		switch r.Intn(4) {
		case 0:
			x.SetString("1"+strings.Repeat("0", r.Intn(n)), 10)
		case 1:
			x.Lsh(big.NewInt(1), uint(r.Intn(3*n)))
		default:
			x.Rand(r, new(big.Int).Exp(big.NewInt(10), big.NewInt(int64(1+r.Intn(n))), nil))
		}
		x.Add(x, big.NewInt(int64(r.Intn(3)-1)))
		return x
	}
	below := part()
	if below.Sign() <= 0 || r.Intn(3) == 0 {
		below.SetInt64(1)
	}
	x := new(big.Rat).SetFrac(part(), below)
	if r.Intn(2) == 0 {
		x.Neg(x)
	}
	return x
}

// TestArithmetic: P1.2, for ordinary numbers, and long ones.
func TestArithmetic(t *testing.T) {
	r := rand.New(rand.NewSource(1))
	for i := range 6000 {
		n := 30
		if i%40 == 0 {
			n = 1200
		}
		x, y := randomNumber(r, n), randomNumber(r, n)
		if i%7 == 0 { // much to cancel
			y.Mul(x, big.NewRat(int64(1+r.Intn(9)), int64(1+r.Intn(9))))
		}
		a, b := frac(x), frac(y)
		check := func(what string, got api.Frac, e api.Errno, want *big.Rat) {
			t.Helper()
			if e != api.OK || got != frac(want) || !exact.Valid(got) {
				t.Fatalf("%s of %s and %s: %s %v, not %s", what, a, b, got, e, frac(want))
			}
		}
		got, e := exact.Add(a, b)
		check("Add", got, e, new(big.Rat).Add(x, y))
		got, e = exact.Sub(a, b)
		check("Sub", got, e, new(big.Rat).Sub(x, y))
		got, e = exact.Mul(a, b)
		check("Mul", got, e, new(big.Rat).Mul(x, y))
		got, e = exact.Neg(a)
		check("Neg", got, e, new(big.Rat).Neg(x))
		got, e = exact.Floor(a)
		check("Floor", got, e, new(big.Rat).SetInt(floor(x)))
		if got, e = exact.Div(a, b); y.Sign() != 0 {
			check("Div", got, e, new(big.Rat).Quo(x, y))
		} else if e != api.ErrNone || got != "" {
			t.Fatal("Div by 0:", got, e)
		}
		if c, e := exact.Cmp(a, b); e != api.OK || c != x.Cmp(y) {
			t.Fatal("Cmp", a, b, c, e)
		}
		if c, e := exact.Cmp(a, a); e != api.OK || c != 0 {
			t.Fatal("Cmp", a, a, c, e)
		}
	}
}

// floor is the greatest integer that is at most x, by math/big.
func floor(x *big.Rat) *big.Int {
	return new(big.Int).Div(x.Num(), x.Denom()) // rounded down, because Denom is above 0
}

// TestArithmeticErrors: P1.2, what is no number, 0 below, and results that are too long.
func TestArithmeticErrors(t *testing.T) {
	two := map[string]func(a, b api.Frac) (api.Frac, api.Errno){"Add": exact.Add, "Sub": exact.Sub, "Mul": exact.Mul, "Div": exact.Div}
	for _, bad := range []api.Frac{"", "x", "2/4", "-0", "1.5", "0/1", "01"} {
		for name, f := range two {
			for _, pair := range [][2]api.Frac{{bad, "1"}, {"1", bad}, {bad, "0"}, {bad, bad}} {
				if c, e := f(pair[0], pair[1]); e != api.ErrForm || c != "" {
					t.Error(name, pair, c, e)
				}
			}
		}
		for name, f := range map[string]func(a api.Frac) (api.Frac, api.Errno){"Neg": exact.Neg, "Floor": exact.Floor} {
			if c, e := f(bad); e != api.ErrForm || c != "" {
				t.Error(name, bad, c, e)
			}
		}
		for _, pair := range [][2]api.Frac{{bad, "1"}, {"1", bad}} {
			if c, e := exact.Cmp(pair[0], pair[1]); e != api.ErrForm || c != 0 {
				t.Error("Cmp", pair, c, e)
			}
		}
	}
	if c, e := exact.Div("3/4", "0"); e != api.ErrNone || c != "" {
		t.Error("Div by 0:", c, e)
	}
	huge, less := api.Frac(most), api.Frac(most[1:]+"8")
	half := api.Frac("1" + strings.Repeat("0", api.MaxDigits/2))
	for i, f := range []func() (api.Frac, api.Errno){
		func() (api.Frac, api.Errno) { return exact.Add(huge, "1") },
		func() (api.Frac, api.Errno) { return exact.Sub("-"+huge, "1") },
		func() (api.Frac, api.Errno) { return exact.Add("1/"+huge, "1/"+less) },
		func() (api.Frac, api.Errno) { return exact.Add(huge, "1/2") },
		func() (api.Frac, api.Errno) { return exact.Mul(half, half) },
		func() (api.Frac, api.Errno) { return exact.Mul(huge, huge) },
		func() (api.Frac, api.Errno) { return exact.Mul("1/"+half, "1/"+half) },
		func() (api.Frac, api.Errno) { return exact.Div(huge, "1/2") },
		func() (api.Frac, api.Errno) { return exact.Div("1/2", huge) },
	} {
		if c, e := f(); e != api.ErrLimit || c != "" {
			t.Errorf("case %d: %.20q %v", i, c, e)
		}
	}
	for i, f := range []func() (api.Frac, api.Errno){
		func() (api.Frac, api.Errno) { return exact.Add(less, "1") },
		func() (api.Frac, api.Errno) { return exact.Mul(half, half[:api.MaxDigits/2]) },
		func() (api.Frac, api.Errno) { return exact.Div(huge, "1") },
		func() (api.Frac, api.Errno) { return exact.Div(huge, huge) },
		func() (api.Frac, api.Errno) { return exact.Mul(huge, "1/"+huge) },
		func() (api.Frac, api.Errno) { return exact.Sub(huge, huge) },
		func() (api.Frac, api.Errno) { return exact.Neg(huge) },
		func() (api.Frac, api.Errno) { return exact.Floor("-" + huge + "/2") },
	} {
		if c, e := f(); e != api.OK || !exact.Valid(c) {
			t.Errorf("case %d: %.20q %v", i, c, e)
		}
	}
	if c, e := exact.Cmp(huge+"/"+less, less+"/"+huge); e != api.OK || c != 1 {
		t.Error("Cmp of long numbers:", c)
	}
}

// TestLong: P1.2, numbers of full length are right.
func TestLong(t *testing.T) {
	r := rand.New(rand.NewSource(2))
	digits := func(n int) *big.Int {
		return new(big.Int).Rand(r, new(big.Int).Exp(big.NewInt(10), big.NewInt(int64(n)), nil))
	}
	x, y := new(big.Rat).SetFrac(digits(24000), digits(24999)), new(big.Rat).SetFrac(digits(24990), digits(24000))
	a, b := frac(x), frac(y)
	if !exact.Valid(a) || !exact.Valid(b) {
		t.Fatal("Valid")
	}
	got, e := exact.Add(a, b)
	if e != api.OK || got != frac(new(big.Rat).Add(x, y)) {
		t.Error("Add", e)
	}
	got, e = exact.Mul(a, b)
	if e != api.OK || got != frac(new(big.Rat).Mul(x, y)) {
		t.Error("Mul", e)
	}
	got, e = exact.Floor(b)
	if e != api.OK || got != api.Frac(floor(y).String()) {
		t.Error("Floor", e)
	}
	back, e := exact.Div(frac(new(big.Rat).Mul(x, y)), b)
	if e != api.OK || back != a {
		t.Error("Div", e)
	}
}

// TestAllLengths: P1.2, sums that carry through all digits, of each length up to some thousands.
func TestAllLengths(t *testing.T) {
	for n := 1; n <= 2600; n++ {
		nines, next := api.Frac(strings.Repeat("9", n)), api.Frac("1"+strings.Repeat("0", n))
		if a, e := exact.Add(nines, "1"); e != api.OK || a != next {
			t.Fatal(n, e)
		}
		if a, e := exact.Sub(next, "1"); e != api.OK || a != nines {
			t.Fatal(n, e)
		}
	}
}

// TestDecimal: P1.3.
func TestDecimal(t *testing.T) {
	for _, c := range []struct {
		a      api.Frac
		places int
		want   string
	}{
		{"-1/3", 2, "-0.34"}, {"22/7", 3, "3.142"}, {"0", 0, "0"}, {"0", 3, "0.000"}, {"1/3", 0, "0"}, {"-1/3", 0, "-1"},
		{"5", 0, "5"}, {"5", 2, "5.00"}, {"-5", 2, "-5.00"}, {"-1/2", 1, "-0.5"}, {"1/1000", 2, "0.00"}, {"-1/1000", 2, "-0.01"},
		{"999/1000", 2, "0.99"}, {"-999/1000", 2, "-1.00"}, {"12345", 1, "12345.0"}, {"1/2", 50, "0.5" + strings.Repeat("0", 49)},
		{"-2/3", 50, "-0." + strings.Repeat("6", 49) + "7"},
	} {
		if s, e := exact.Decimal(c.a, c.places); e != api.OK || s != c.want {
			t.Error(c.a, c.places, s, e)
		}
	}
	for _, places := range []int{-1, 51, math.MinInt64, math.MaxInt64} {
		if s, e := exact.Decimal("1", places); e != api.ErrArg || s != "" {
			t.Error(places, s, e)
		}
		if s, e := exact.Decimal("2/4", places); e != api.ErrForm || s != "" {
			t.Error("ErrForm comes first:", s, e)
		}
	}
	if s, e := exact.Decimal(api.Frac(most), 50); e != api.OK || s != most+"."+strings.Repeat("0", 50) {
		t.Error("the greatest number:", e)
	}
	r := rand.New(rand.NewSource(3))
	for range 500 {
		x, places := randomNumber(r, 40), r.Intn(51)
		s, e := exact.Decimal(frac(x), places)
		unit := new(big.Rat).SetFrac(big.NewInt(1), new(big.Int).Exp(big.NewInt(10), big.NewInt(int64(places)), nil))
		want := new(big.Rat).Mul(new(big.Rat).SetInt(floor(new(big.Rat).Quo(x, unit))), unit)
		if e != api.OK || s != want.FloatString(places) {
			t.Fatal(frac(x), places, s, e)
		}
	}
}

// TestProducts: sums of products, of which P3.5 says how far they may go.
func TestProducts(t *testing.T) {
	r := rand.New(rand.NewSource(9))
	for range 1000 {
		var lists [][]api.Frac
		want := new(big.Rat)
		for range r.Intn(5) {
			var list []api.Frac
			product := big.NewRat(1, 1)
			for range r.Intn(4) {
				x := randomNumber(r, 20)
				list = append(list, frac(x))
				product.Mul(product, x)
			}
			lists = append(lists, list)
			want.Add(want, product)
		}
		sum, e := exact.Products(lists)
		equal(t, "sum", []any{sum, e}, []any{frac(want), api.OK})
	}
	sum, e := exact.Products([][]api.Frac{{api.Frac(most), api.Frac(most)}, {"-" + api.Frac(most), api.Frac(most)}, {"1/" + api.Frac(most), "2", api.Frac(most), "5/4"}})
	equal(t, "only the sum counts", []any{sum, e}, []any{api.Frac("5/2"), api.OK})
	for _, c := range []struct {
		list []api.Frac
		want api.Errno
	}{
		{[]api.Frac{api.Frac(most), "2"}, api.ErrLimit},
		{[]api.Frac{"1/" + api.Frac(most), "1/2"}, api.ErrLimit},
		{[]api.Frac{api.Frac(most), "2", "x"}, api.ErrForm},
		{[]api.Frac{"0", ""}, api.ErrForm},
		{[]api.Frac{"0", api.Frac(most + "0")}, api.ErrForm},
	} {
		sum, e := exact.Products([][]api.Frac{{"1"}, c.list})
		equal(t, "error", []any{sum, e}, []any{api.Frac(""), c.want})
	}
}
