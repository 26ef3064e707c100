package frac_test

import (
	"math"
	"slices"
	"testing"

	"planisphere/api"
	"planisphere/frac"
	"planisphere/wide"
)

// P2.1: Check.
func TestCheck(t *testing.T) {
	one := wide.From(1)
	below := negative(greatest())
	below.Mag[0]--
	valid := []api.Frac{
		{Den: one},
		{Num: api.Wide{Mag: []uint32{}}, Den: one},
		of(1, 1), of(-1, 1), of(2, 1), of(-3, 2), of(15, 26), of(1<<62, 3),
		huge(), tiny(), minus(huge()), minus(tiny()),
		{Num: greatest(), Den: one},
		{Num: one, Den: greatest()},
		{Num: below, Den: greatest()},
		{Num: greatest(), Den: power(131071)},
	}
	for i, f := range valid {
		if e := frac.Check(f); e != api.OK {
			t.Error("valid", i, brief(f), e)
		}
	}
	for i, f := range bad() {
		if e := frac.Check(f); e != api.ErrBad {
			t.Error("not valid", i, e)
		}
	}
}

// P2.1: all functions return ErrBad for a fraction that is not valid, whatever
// the other one is.
func TestBadArguments(t *testing.T) {
	for _, f := range bad() {
		for name, call := range unaries() {
			got, e := call(f)
			fails(t, name, got, e, api.ErrBad)
		}
		for name, call := range binaries() {
			for _, other := range []api.Frac{zero(), of(-3, 2), huge(), tiny(), f} {
				got, e := call(f, other)
				fails(t, name+" of a bad fraction", got, e, api.ErrBad)
				got, e = call(other, f)
				fails(t, name+" with a bad fraction", got, e, api.ErrBad)
			}
		}
	}
}

// P2.1: ErrBad comes before ErrArg, ErrMany and ErrRange.
func TestBadFirst(t *testing.T) {
	for _, f := range bad() {
		for _, digits := range []int{math.MinInt, -1, 51, math.MaxInt} {
			s, e := frac.Decimal(f, digits)
			got, e := asText(s, e)
			fails(t, "Decimal", got, e, api.ErrBad)
		}
		for _, l := range [][]api.Frac{
			{f},
			{huge(), huge(), f},
			{f, huge(), huge()},
			append(slices.Repeat([]api.Frac{of(1, 2)}, api.MaxSum), f),
		} {
			got, e := frac.Sum(l)
			fails(t, "Sum", got, e, api.ErrBad)
		}
	}
}

// spare returns a number whose limbs have others behind them in memory.
func spare(w api.Wide) (api.Wide, []uint32) {
	all := append(slices.Clone(w.Mag), 0xAAAAAAAA, 0xBBBBBBBB, 0xCCCCCCCC)
	return api.Wide{Neg: w.Neg, Mag: all[:len(w.Mag)]}, all
}

// guarded is a fraction that knows the memory behind its limbs.
type guarded struct {
	f        api.Frac
	num, den []uint32
}

func guard(f api.Frac) guarded {
	num, allNum := spare(f.Num)
	den, allDen := spare(f.Den)
	return guarded{f: api.Frac{Num: num, Den: den}, num: allNum, den: allDen}
}

// unchanged reports whether it still is f, with the same memory behind it.
func (g guarded) unchanged(f api.Frac) bool {
	fresh := guard(f)
	return same(g.f, f) && slices.Equal(g.num, fresh.num) && slices.Equal(g.den, fresh.den)
}

// scribble overwrites all the memory of a number.
func scribble(w api.Wide) {
	all := w.Mag[:cap(w.Mag)]
	for i := range all {
		all[i] = 0x55555555
	}
}

// unshared checks that both numbers of a result can be overwritten without a
// change of the other one or of the arguments.
func unshared(t *testing.T, what string, call func(a, b api.Frac) (api.Frac, api.Errno), a, b api.Frac) {
	t.Helper()
	x, y := guard(a), guard(b)
	first, _ := call(x.f, y.f)
	got, _ := call(x.f, y.f)
	scribble(got.Num)
	if !sameWide(got.Den, first.Den) {
		t.Errorf("%s of %s and %s: Num and Den share memory", what, brief(a), brief(b))
	}
	scribble(got.Den)
	if !x.unchanged(a) || !y.unchanged(b) {
		t.Errorf("%s of %s and %s: an argument has changed", what, brief(a), brief(b))
	}
	again, _ := call(x.f, y.f)
	if !same(first, again) {
		t.Errorf("%s of %s and %s: another result has changed", what, brief(a), brief(b))
	}
}

// R2: arguments are not modified, and results share no memory.
func TestMemory(t *testing.T) {
	calls := binaries()
	for name, call := range unaries() {
		calls[name] = func(a, _ api.Frac) (api.Frac, api.Errno) { return call(a) }
	}
	calls["Make"] = func(a, b api.Frac) (api.Frac, api.Errno) { return frac.Make(a.Num, b.Num) }
	calls["Sum of 2"] = func(a, b api.Frac) (api.Frac, api.Errno) { return frac.Sum([]api.Frac{a, b}) }
	calls["Sum of none"] = func(_, _ api.Frac) (api.Frac, api.Errno) { return frac.Sum(nil) }
	calls["Parse"] = func(_, _ api.Frac) (api.Frac, api.Errno) { return frac.Parse("1") }
	eachPair(21, 12, 90, func(a, b api.Frac) {
		for name, call := range calls {
			unshared(t, name, call, a, b)
		}
	})
}

// R2: Sum does not change the list.
func TestSumList(t *testing.T) {
	all := []api.Frac{of(1, 2), of(1, 3), of(1, 4), of(7, 5)}
	got, e := frac.Sum(all[:2])
	want(t, "Sum", got, e, of(5, 6))
	for i, f := range []api.Frac{of(1, 2), of(1, 3), of(1, 4), of(7, 5)} {
		if !same(all[i], f) {
			t.Error("the list has changed", i)
		}
	}
}

// R3: a nil list and an empty one are the same number.
func TestEmpty(t *testing.T) {
	one := wide.From(1)
	a, b := api.Frac{Den: one}, api.Frac{Num: api.Wide{Mag: []uint32{}}, Den: one}
	for name, call := range unaries() {
		x, e := call(a)
		y, f := call(b)
		if e != api.OK || f != api.OK || !same(x, y) {
			t.Error(name, x, e, y, f)
		}
	}
	x, e := frac.Sum(nil)
	want(t, "Sum of nil", x, e, zero())
	x, e = frac.Sum([]api.Frac{})
	want(t, "Sum of none", x, e, zero())
}
