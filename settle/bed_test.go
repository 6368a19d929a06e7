package settle_test

import (
	"fmt"
	"math/big"
	"math/rand"
	"slices"
	"strings"
	"testing"

	"underpin/api"
	"underpin/settle"
)

// mustAfter returns the pressures of a bed after so many steps.
func mustAfter(t testing.TB, b api.Bed, steps int) []api.Frac {
	t.Helper()
	l, e := settle.After(b, steps)
	if e != api.OK {
		t.Fatalf("%v: %.200s, %d", e, said(b), steps)
	}
	return l
}

// mustSettled returns the settlement of a bed after so many steps.
func mustSettled(t testing.TB, b api.Bed, steps int) api.Frac {
	t.Helper()
	a, e := settle.Settled(b, steps)
	if e != api.OK {
		t.Fatalf("%v: %.200s, %d", e, said(b), steps)
	}
	return a
}

// mustWhen returns when the settlement of a bed is at least a target.
func mustWhen(t testing.TB, b api.Bed, target api.Frac) int {
	t.Helper()
	n, e := settle.When(b, target)
	if e != api.OK {
		t.Fatalf("%v: %.200s, %.50s", e, said(b), target)
	}
	return n
}

// TestAfter: P5.2, pressures that were reckoned by hand.
func TestAfter(t *testing.T) {
	b := exampleBed()
	equal(t, "0 steps", mustAfter(t, b, 0), numbers("8 0 0"))
	equal(t, "1 step", mustAfter(t, b, 1), numbers("4 2 0"))
	equal(t, "2 steps", mustAfter(t, b, 2), numbers("5/2 2 1/2"))
	b.Below = true
	equal(t, "downwards too", mustAfter(t, b, 2), numbers("5/2 2 1/2"))
	equal(t, "downwards too, a step later", mustAfter(t, b, 3), numbers("7/4 7/4 3/4"))
	b.Below = false
	equal(t, "upwards alone, a step later", mustAfter(t, b, 3), numbers("7/4 7/4 7/8"))
	one := api.Bed{Slices: numbers("8"), Rate: "1/4", Soft: "1"}
	equal(t, "one slice", mustAfter(t, one, 2), numbers("9/2"))
	one.Below = true
	equal(t, "one slice, downwards too", mustAfter(t, one, 2), numbers("2"))
	one.Rate = "1/2"
	equal(t, "all of it at once", mustAfter(t, one, 1), numbers("0"))
	equal(t, "all of it at once, and nothing behind", mustAfter(t, one, 200), numbers("0"))
}

// TestAfterLoads: P5.2, loads come ahead of their step's change.
func TestAfterLoads(t *testing.T) {
	b := api.Bed{Slices: numbers("0 0"), Rate: "1/4", Soft: "2", Adds: []api.Add{{Step: 0, Pressure: "3"}, {Step: 0, Pressure: "1"}, {Step: 2, Pressure: "16"}}}
	equal(t, "0 steps", mustAfter(t, b, 0), numbers("0 0"))
	equal(t, "1 step", mustAfter(t, b, 1), numbers("3 4"))
	equal(t, "2 steps", mustAfter(t, b, 2), numbers("5/2 15/4"))
	equal(t, "3 steps", mustAfter(t, b, 3), numbers("227/16 311/16"))
	equal(t, "no settlement", mustSettled(t, b, 0), api.Frac("0"))
	equal(t, "of the loads of the step 0", mustSettled(t, b, 1), api.Frac("2"))
	equal(t, "not yet of the load of the step 2", mustSettled(t, b, 2), api.Frac("7/2"))
	equal(t, "of all loads", mustSettled(t, b, 3), api.Frac("51/4"))
	late := exampleBed()
	late.Adds = []api.Add{{Step: 199, Pressure: "5"}, {Step: 200, Pressure: "9999"}}
	equal(t, "before the last step", mustAfter(t, late, 199), mustAfter(t, exampleBed(), 199))
	without := late
	without.Adds = late.Adds[:1]
	equal(t, "a load behind the last step", mustAfter(t, late, 200), mustAfter(t, without, 200))
	equal(t, "a load behind the last step", mustSettled(t, late, 200), mustSettled(t, without, 200))
	if slices.Equal(mustAfter(t, late, 200), mustAfter(t, exampleBed(), 200)) {
		t.Error("the load of the last step is missing")
	}
}

// TestSettled: P5.2, the chapter's examples.
func TestSettled(t *testing.T) {
	b := exampleBed()
	equal(t, "0 steps", mustSettled(t, b, 0), api.Frac("0"))
	equal(t, "1 step", mustSettled(t, b, 1), api.Frac("1"))
	equal(t, "2 steps", mustSettled(t, b, 2), api.Frac("3/2"))
	b.Soft = "7/3"
	equal(t, "softer", mustSettled(t, b, 2), api.Frac("7"))
}

// TestStepsByWords: P5.2, against the chapter's words.
func TestStepsByWords(t *testing.T) {
	r := rand.New(rand.NewSource(1))
	loads := 0
	for range 300 {
		b := randomBed(r, 6, 12)
		n := r.Intn(14)
		equal(t, fmt.Sprint("After ", said(b), n), mustAfter(t, b, n), fracs(bedAfter(b, n)))
		equal(t, fmt.Sprint("Settled ", said(b), n), mustSettled(t, b, n), frac(settledAfter(b, n)))
		if n > 0 && len(b.Adds) > 0 && b.Adds[0].Step == n-1 || len(b.Adds) > 1 && b.Adds[0].Step == b.Adds[1].Step {
			loads++
		}
	}
	if loads < 15 {
		t.Error("too few:", loads)
	}
}

// TestManySteps: P5.2, as much of everything as may be.
func TestManySteps(t *testing.T) {
	b := api.Bed{Rate: "4973/9949", Soft: "9941/9973"}
	for i := range 32 {
		b.Slices = append(b.Slices, frac(big.NewRat(int64(9000+i), int64(9967-i))))
	}
	for i := range 12 {
		b.Adds = append(b.Adds, api.Add{Step: i * 18, Pressure: frac(big.NewRat(int64(9001-i), int64(9001+i)))})
	}
	equal(t, "the bed", settle.CheckBed(b), api.OK)
	left := bedAfter(b, 200)
	equal(t, "After", mustAfter(t, b, 200), fracs(left))
	want := frac(settledWith(b, 200, left))
	equal(t, "Settled", mustSettled(t, b, 200), want)
	equal(t, "When", mustWhen(t, b, want), 200)
}

// TestSteps: P5.2, the errors of the bed, then of the steps.
func TestSteps(t *testing.T) {
	for _, steps := range []int{-1, 201, -1 << 63, 1<<63 - 1} {
		l, e := settle.After(exampleBed(), steps)
		equal(t, "After", e, api.ErrArg)
		alone(t, "After", e, l)
		a, e := settle.Settled(exampleBed(), steps)
		equal(t, "Settled", e, api.ErrArg)
		alone(t, "Settled", e, a)
	}
	for _, c := range wrongBeds {
		b := exampleBed()
		c.change(&b)
		l, e := settle.After(b, -1)
		equal(t, "After, "+c.what, e, c.want)
		alone(t, "After", e, l)
		a, e := settle.Settled(b, 201)
		equal(t, "Settled, "+c.what, e, c.want)
		alone(t, "Settled", e, a)
		n, e := settle.When(b, "")
		equal(t, "When, "+c.what, e, c.want)
		alone(t, "When", e, n)
	}
}

// TestWhen: P5.2.
func TestWhen(t *testing.T) {
	b := exampleBed()
	for _, c := range []struct {
		target api.Frac
		want   int
	}{
		{"3/2", 2},
		{"149/100", 2},
		{"151/100", 3},
		{"1", 1},
		{"1/1000000", 1},
		{"0", 0},
		{"-1/2", 0},
		{api.Frac("-" + most), 0},
		{"4", -1},
		{"5", -1},
		{api.Frac(most), -1},
		{api.Frac("1/" + most), 1},
		{mustSettled(t, b, 200), 200},
		{frac(plus(rat(mustSettled(t, b, 200)), rat("1/"+api.Frac(most[:2000])))), -1},
		{frac(plus(rat(mustSettled(t, b, 199)), rat("1/"+api.Frac(most[:2000])))), 200},
	} {
		equal(t, fmt.Sprintf("%.50s", c.target), mustWhen(t, b, c.target), c.want)
	}
	for _, target := range []api.Frac{"", "x", "2/4", "1.5", "-0", api.Frac(most + "0")} {
		n, e := settle.When(b, target)
		equal(t, "target", []any{n, e}, []any{0, api.ErrForm})
	}
	still := api.Bed{Slices: numbers("0 0"), Rate: "1/2", Soft: "1", Adds: []api.Add{{Step: 5, Pressure: "0"}, {Step: 200, Pressure: "9"}}}
	equal(t, "nothing settles, 0", mustWhen(t, still, "0"), 0)
	equal(t, "nothing settles, more", mustWhen(t, still, "1/9999"), -1)
	still.Adds[0].Pressure = "1"
	equal(t, "settles with the load", mustWhen(t, still, "1/9999"), 6)
}

// TestWhenByWords: P5.2, against the settlements of all steps.
func TestWhenByWords(t *testing.T) {
	r := rand.New(rand.NewSource(2))
	found := map[int]bool{}
	for range 60 {
		b := randomBed(r, 4, 200)
		want := r.Intn(201)
		if r.Intn(2) == 0 {
			want = r.Intn(10)
		}
		target := mustSettled(t, b, want)
		for want > 0 && mustSettled(t, b, want-1) == target {
			want--
		}
		equal(t, "just reached "+said(b), mustWhen(t, b, target), want)
		if want > 0 {
			part := plus(rat(mustSettled(t, b, want-1)), rat(target))
			equal(t, "between "+said(b), mustWhen(t, b, frac(times(rat("1/2"), part))), want)
		}
		found[want] = true
	}
	if len(found) < 30 {
		t.Error("too few:", found)
	}
}

// TestWhenLongTarget: P5.2, P0.1, a target of as many digits as numbers may have.
func TestWhenLongTarget(t *testing.T) {
	b := exampleBed()
	target := api.Frac("1" + strings.Repeat("9", api.MaxDigits-1) + "/1" + strings.Repeat("0", api.MaxDigits-1))
	equal(t, "somewhat less than 2", mustWhen(t, b, target), mustWhen(t, b, "2"))
}

// TestBedLaws: P5.5, pressures stay within what there was and came, settlements do not fall.
func TestBedLaws(t *testing.T) {
	r := rand.New(rand.NewSource(3))
	for range 60 {
		b := randomBed(r, 6, 15)
		bound, all := slices.MaxFunc(rats(b.Slices), (*big.Rat).Cmp), plus(rats(b.Slices)...)
		settled := api.Frac("0")
		for n := range 16 {
			for _, load := range b.Adds {
				if load.Step == n-1 {
					bound = plus(bound, rat(load.Pressure))
					all = plus(all, times(rat(load.Pressure), number(len(b.Slices))))
				}
			}
			for _, a := range mustAfter(t, b, n) {
				if !between("0", a, frac(bound)) {
					t.Fatal("pressure", a, "beyond", bound, said(b), n)
				}
			}
			next := mustSettled(t, b, n)
			if !between(settled, next, frac(times(rat(b.Soft), all))) {
				t.Fatal("settlement", next, "behind", settled, said(b), n)
			}
			settled = next
		}
	}
}

// TestMorePressure: P5.5, where nothing is less, nothing becomes less.
func TestMorePressure(t *testing.T) {
	r := rand.New(rand.NewSource(4))
	for range 60 {
		b := randomBed(r, 6, 10)
		more := copiedBed(b)
		for i := range more.Slices {
			if r.Intn(2) == 0 {
				more.Slices[i] = frac(plus(rat(more.Slices[i]), rat(some(r, 5, 3))))
			}
		}
		for i := range more.Adds {
			more.Adds[i].Pressure = frac(plus(rat(more.Adds[i].Pressure), rat(some(r, 5, 3))))
		}
		more.Adds = append(more.Adds, api.Add{Step: 10, Pressure: "2"})
		for n := range 13 {
			greater := mustAfter(t, more, n)
			for i, a := range mustAfter(t, b, n) {
				if compared(a, greater[i]) > 0 {
					t.Fatal("less:", said(b), said(more), n)
				}
			}
		}
	}
}
