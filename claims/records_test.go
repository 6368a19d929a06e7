package claims_test

import (
	"encoding/binary"
	"fmt"
	"hash/fnv"
	"math/rand"
	"regexp"
	"slices"
	"strings"
	"testing"

	"underpin/api"
	"underpin/claims"
)

// exampleText is the text of the record of the chapter.
const exampleText = "5 met clay ann 8\n9 met clay ann 8\n30 notice ground ann 0\n"

// TestWrite: P9.1.
func TestWrite(t *testing.T) {
	text, e := claims.Write(exampleRecord())
	equal(t, "the example", []any{text, e}, []any{exampleText, api.OK})
	text, e = claims.Write(nil)
	equal(t, "nothing", []any{text, e}, []any{"", api.OK})
	text, e = claims.Write([]api.Fact{{Time: 0, Kind: "a-1", Item: "b", By: "c", Number: -api.MaxAmount}})
	equal(t, "a number below 0", []any{text, e}, []any{"0 a-1 b c -1000000000000\n", api.OK})
	name := strings.Repeat("z", api.MaxName)
	longest := api.Fact{Time: api.MaxTime, Kind: name, Item: name, By: name, Number: -api.MaxAmount}
	text, e = claims.Write(slices.Repeat([]api.Fact{longest}, api.MaxFacts))
	want := strings.Repeat("100000 "+strings.Repeat(name+" ", 3)+"-1000000000000\n", api.MaxFacts)
	equal(t, "the longest one", []any{text, e}, []any{want, api.OK})
}

// readCases are texts behind the first line of the example, with the line that is wrong.
var readCases = []struct {
	text string
	line int
	want api.Errno
}{
	{"", 0, api.OK},
	{"\n", 2, api.ErrForm},
	{" ", 2, api.ErrForm},
	{"9 met clay ann 8", 0, api.OK},
	{"9 met clay ann 8\n", 0, api.OK},
	{"9 met clay ann 8\n\n", 3, api.ErrForm},
	{"9 met clay ann 8\n\n9 met clay ann 8\n", 3, api.ErrForm},
	{"9 met clay ann 8\n9 met\nmet\n", 3, api.ErrForm},
	{"9 met clay 8", 2, api.ErrForm},
	{"9 met clay ann bob 8", 2, api.ErrForm},
	{" 9 met clay ann 8", 2, api.ErrForm},
	{"9 met clay ann 8 ", 2, api.ErrForm},
	{"9  met clay ann 8", 2, api.ErrForm},
	{"9 met  ann 8", 2, api.ErrForm},
	{"9  clay ann 8", 2, api.ErrForm},
	{"9 met clay  8", 2, api.ErrForm},
	{" met clay ann 8", 2, api.ErrForm},
	{"9 met clay ann ", 2, api.ErrForm},
	{"9\tmet clay ann 8", 2, api.ErrForm},
	{"9 met clay ann 8\r", 2, api.ErrForm},
	{"9 \t\xff\x00 \r é 8", 0, api.ErrName},
	{"9 MET clay ann 8", 0, api.ErrName},
	{"9 met 1 ann 8", 0, api.ErrName},
	{"9 met clay abcdefghijklmnopq 8", 0, api.ErrName},
	{"x met clay ann 8", 2, api.ErrForm},
	{"+9 met clay ann 8", 2, api.ErrForm},
	{"09 met clay ann 8", 2, api.ErrForm},
	{"-0 met clay ann 8", 2, api.ErrForm},
	{"- met clay ann 8", 2, api.ErrForm},
	{"9.0 met clay ann 8", 2, api.ErrForm},
	{"9 met clay ann +8", 2, api.ErrForm},
	{"9 met clay ann 08", 2, api.ErrForm},
	{"9 met clay ann -0", 2, api.ErrForm},
	{"9 met clay ann --8", 2, api.ErrForm},
	{"9 met clay ann 8_0", 2, api.ErrForm},
	{"9 met clay ann 0x8", 2, api.ErrForm},
	{"9 met clay ann eight", 2, api.ErrForm},
	{"9 met clay ann 1000000000000", 0, api.OK},
	{"9 met clay ann -1000000000000", 0, api.OK},
	{"9 met clay ann 1000000000001", 0, api.ErrArg},
	{"9 met clay ann 9999999999999", 0, api.ErrArg},
	{"9 met clay ann -9999999999999", 0, api.ErrArg},
	{"9 met clay ann 10000000000000", 2, api.ErrForm},
	{"9 met clay ann -10000000000000", 2, api.ErrForm},
	{"9 met clay ann 99999999999999999999999999", 2, api.ErrForm},
	{"100000 met clay ann 8", 0, api.OK},
	{"100001 met clay ann 8", 0, api.ErrArg},
	{"9999999999999 met clay ann 8", 0, api.ErrArg},
	{"10000000000000 met clay ann 8", 2, api.ErrForm},
	{"-1 met clay ann 8", 0, api.ErrArg},
	{"-9999999999999 met clay ann 8", 0, api.ErrArg},
	{"4 met clay ann 8", 0, api.ErrState},
	{"4 met clay ann 8\nmet", 3, api.ErrForm},
	{strings.Repeat("9 met clay ann 8\n", 511), 0, api.OK},
	{strings.Repeat("9 met clay ann 8\n", 512), 0, api.ErrLimit},
	{strings.Repeat("9 met clay ann 8\n", 512) + "9", 514, api.ErrForm},
}

// TestRead: P9.1.
func TestRead(t *testing.T) {
	for _, c := range readCases {
		l, line, e := claims.Read("5 met clay ann 8\n" + c.text)
		alone(t, c.text, e, l)
		equal(t, fmt.Sprintf("%.60q", c.text), []any{line, e}, []any{c.line, c.want})
	}
	l, line, e := claims.Read(exampleText)
	equal(t, "the example", []any{l, line, e}, []any{exampleRecord(), 0, api.OK})
	l, line, e = claims.Read("")
	equal(t, "nothing", []any{len(l), line, e}, []any{0, 0, api.OK})
	long := "9 " + strings.Repeat("m", api.MaxText-15) + " clay ann 8\n"
	l, line, e = claims.Read(long[1:])
	equal(t, "a text that is long", []any{len(long), len(l), line, e}, []any{api.MaxText - 1, 0, 1, api.ErrForm})
	l, line, e = claims.Read(long + "x")
	equal(t, "the longest text", []any{len(l), line, e}, []any{0, 2, api.ErrForm})
	l, line, e = claims.Read(long + "xx")
	equal(t, "a text that is too long", []any{len(l), line, e}, []any{0, 0, api.ErrLimit})
}

// TestReadSpoiled: P9.1, lines of which single bytes were changed, against a regular expression.
func TestReadSpoiled(t *testing.T) {
	r := rand.New(rand.NewSource(301))
	number := `(0|-?[1-9][0-9]{0,12})`
	form := regexp.MustCompile(`^` + number + ` [^ ]+ [^ ]+ [^ ]+ ` + number + `$`)
	bytes := []byte(" \n0123-+aZ\t\xff")
	good, wrong := 0, 0
	for range 20000 {
		text := []byte(exampleText)
		for range 1 + r.Intn(3) {
			at := r.Intn(len(text))
			switch r.Intn(3) {
			case 0:
				text[at] = pick(r, bytes)
			case 1:
				text = slices.Insert(text, at, pick(r, bytes))
			default:
				text = slices.Delete(text, at, at+1)
			}
		}
		lines := strings.Split(strings.TrimSuffix(string(text), "\n"), "\n")
		want := slices.IndexFunc(lines, func(s string) bool { return !form.MatchString(s) }) + 1
		l, line, e := claims.Read(string(text))
		equal(t, fmt.Sprintf("%q", text), []any{line, e == api.ErrForm}, []any{want, want > 0})
		if want > 0 {
			wrong++
		} else if e == api.OK {
			good++
			again, _ := claims.Write(l)
			equal(t, "there and back", again, strings.TrimSuffix(string(text), "\n")+"\n")
		}
	}
	if good < 1000 || wrong < 1000 {
		t.Error("too few:", good, wrong)
	}
}

// sealBy is the seal of a fact behind another seal by the library.
func sealBy(ahead uint64, text string) uint64 {
	h := fnv.New64a()
	h.Write(binary.BigEndian.AppendUint64(nil, ahead))
	h.Write([]byte(text))
	return h.Sum64()
}

// TestSeals: P9.1.
func TestSeals(t *testing.T) {
	seals, e := claims.Seals(nil)
	equal(t, "nothing", []any{len(seals), e}, []any{0, api.OK})
	// the seal of the first fact, byte by byte
	h := uint64(14695981039346656037)
	for _, b := range []byte("\x00\x00\x00\x00\x00\x00\x00\x005 met clay ann 8\n") {
		h = (h ^ uint64(b)) * 1099511628211
	}
	seals, e = claims.Seals(exampleRecord()[:1])
	equal(t, "one fact", []any{seals, e}, []any{[]uint64{h}, api.OK})
	r := rand.New(rand.NewSource(302))
	for range 300 {
		l := randomRecord(r, 12, 20)
		var want []uint64
		last := uint64(0)
		for _, f := range l {
			last = sealBy(last, fmt.Sprintf("%d %s %s %s %d\n", f.Time, f.Kind, f.Item, f.By, f.Number))
			want = append(want, last)
		}
		seals, e := claims.Seals(l)
		equal(t, "Errno", e, api.OK)
		equal(t, said(l), seals, want)
		broken, e := claims.Broken(l, seals)
		equal(t, "whole", []any{broken, e}, []any{len(l), api.OK})
	}
}

// TestBroken: P9.1, a seal counts for the one behind it as it stands.
func TestBroken(t *testing.T) {
	l := exampleRecord()
	seals, _ := claims.Seals(l)
	for _, n := range []int{0, 2, 4, 100000} {
		broken, e := claims.Broken(l, make([]uint64, n))
		equal(t, fmt.Sprint(n, " seals"), []any{broken, e}, []any{0, api.ErrArg})
	}
	broken, e := claims.Broken(nil, nil)
	equal(t, "nothing", []any{broken, e}, []any{0, api.OK})
	for i := range l {
		bad := slices.Clone(seals)
		bad[i] ^= 1 << (20 * i)
		broken, e := claims.Broken(l, bad)
		equal(t, fmt.Sprint("seal ", i), []any{broken, e}, []any{i, api.OK})
	}
	// a fact put in, sealed by somebody who does not seal the others again
	more := slices.Insert(slices.Clone(l), 1, api.Fact{Time: 6, Kind: "met", Item: "clay", By: "ann", Number: 1})
	new1 := sealBy(seals[0], "6 met clay ann 1\n")
	broken, e = claims.Broken(more, slices.Insert(slices.Clone(seals), 1, new1))
	equal(t, "a fact put in", []any{broken, e}, []any{2, api.OK})
	// the second fact changed, with a seal of its own that is right: only the third one tells
	l[1].Number = 9
	again := slices.Clone(seals)
	again[1] = sealBy(seals[0], "9 met clay ann 9\n")
	broken, e = claims.Broken(l, again)
	equal(t, "a fact sealed again", []any{broken, e}, []any{2, api.OK})
	again[2] = sealBy(again[1], "30 notice ground ann 0\n")
	broken, e = claims.Broken(l, again)
	equal(t, "all sealed again", []any{broken, e}, []any{3, api.OK})
	// all is right but the first one, whose seal is what the second one was reckoned from
	again[0]++
	again[1] = sealBy(again[0], "9 met clay ann 9\n")
	broken, e = claims.Broken(l, again)
	equal(t, "the first seal", []any{broken, e}, []any{0, api.OK})
}

// TestAgree: P9.1, by hand.
func TestAgree(t *testing.T) {
	fact := func(time int, number int64) api.Fact {
		return api.Fact{Time: time, Kind: "met", Item: "clay", By: "ann", Number: number}
	}
	a := []api.Fact{fact(1, 1), fact(1, 2), fact(1, 1), fact(3, 1), fact(3, 1)}
	b := []api.Fact{fact(1, 2), fact(1, 1), fact(2, 5), fact(3, 1), fact(3, 1), fact(3, 1)}
	both, first, second, e := claims.Agree(a, b)
	equal(t, "both", []any{both, e}, []any{[]api.Fact{fact(1, 1), fact(1, 2), fact(3, 1), fact(3, 1)}, api.OK})
	equal(t, "first", first, []api.Fact{fact(1, 1)})
	equal(t, "second", second, []api.Fact{fact(2, 5), fact(3, 1)})
	both, first, second, e = claims.Agree(nil, a)
	equal(t, "nothing, and something", []any{len(both), len(first), second, e}, []any{0, 0, a, api.OK})
	other := fact(1, 1)
	other.By = "bob"
	both, first, second, e = claims.Agree([]api.Fact{fact(1, 1)}, []api.Fact{other})
	equal(t, "said by another one", []any{len(both), first, second, e}, []any{0, []api.Fact{fact(1, 1)}, []api.Fact{other}, api.OK})
	both, first, second, e = claims.Agree([]api.Fact{{}}, make([]api.Fact, 513))
	alone(t, "two wrong records", e, both, first, second)
	equal(t, "two wrong records", e, api.ErrName)
}

// TestAgreeRandom: P9.1, fact by fact: how many equal ones stand ahead decides.
func TestAgreeRandom(t *testing.T) {
	r := rand.New(rand.NewSource(303))
	small := func() []api.Fact {
		l := randomRecord(r, 10, 2)
		for i := range l {
			l[i].Number, l[i].Kind, l[i].Item = 0, "met", pick(r, items[:2])
		}
		return l
	}
	in := func(l []api.Fact, f api.Fact) int {
		many := 0
		for _, other := range l {
			if other == f {
				many++
			}
		}
		return many
	}
	part := func(l, other []api.Fact) (both, alone []api.Fact) {
		for i, f := range l {
			if in(l[:i], f) < in(other, f) {
				both = append(both, f)
			} else {
				alone = append(alone, f)
			}
		}
		return both, alone
	}
	for range 2000 {
		a, b := small(), small()
		both, first, second, e := claims.Agree(a, b)
		equal(t, "Errno", e, api.OK)
		wantBoth, wantFirst := part(a, b)
		_, wantSecond := part(b, a)
		equal(t, "both", both, wantBoth)
		equal(t, "first", first, wantFirst)
		equal(t, "second", second, wantSecond)
	}
}
