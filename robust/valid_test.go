package robust_test

import (
	"math"
	"math/big"
	"slices"
	"testing"

	"planisphere/api"
	"planisphere/robust"
	"planisphere/wide"
)

// calls are the functions of lists, by their names: whether the result is no
// zero value, and the error.
func calls() map[string]func(l []int64, k api.Frac, num, den int) (bool, api.Errno) {
	plain := func(call func(l []int64) (api.Frac, api.Errno)) func(l []int64, k api.Frac, num, den int) (bool, api.Errno) {
		return func(l []int64, _ api.Frac, _, _ int) (bool, api.Errno) { return isSome(call(l)) }
	}
	return map[string]func(l []int64, k api.Frac, num, den int) (bool, api.Errno){
		"Mean": plain(robust.Mean), "Variance": plain(robust.Variance), "Median": plain(robust.Median), "Deviation": plain(robust.Deviation),
		"Percentile": func(l []int64, _ api.Frac, num, den int) (bool, api.Errno) {
			x, e := robust.Percentile(l, num, den)
			return x != 0, e
		},
		"Clip": func(l []int64, k api.Frac, _, _ int) (bool, api.Errno) {
			left, rounds, e := robust.Clip(l, k)
			return len(left) > 0 || rounds != 0, e
		},
		"Trimmed": func(l []int64, k api.Frac, _, _ int) (bool, api.Errno) { return isSome(robust.Trimmed(l, k)) },
	}
}

// isSome reports whether a result is no zero value.
func isSome(f api.Frac, e api.Errno) (bool, api.Errno) { return !sameFrac(f, api.Frac{}), e }

// P7.1: the errors of lists, which come first.
func TestErrors(t *testing.T) {
	most := api.MaxValue
	longest := make([]int64, api.MaxValues)
	last := slices.Clone(longest)
	last[api.MaxValues-1] = most + 1
	for _, x := range []struct {
		l []int64
		e api.Errno
	}{
		{make([]int64, api.MaxValues+1), api.ErrMany}, {slices.Repeat([]int64{most + 1}, api.MaxValues+1), api.ErrMany},
		{make([]int64, 5000), api.ErrMany}, {append([]int64{math.MinInt64}, longest...), api.ErrMany},
		{[]int64{most + 1}, api.ErrBad}, {[]int64{-most - 1}, api.ErrBad}, {[]int64{math.MaxInt64}, api.ErrBad},
		{[]int64{math.MinInt64}, api.ErrBad}, {[]int64{0, 0, most + 1}, api.ErrBad}, {[]int64{-most - 1, 0}, api.ErrBad},
		{last, api.ErrBad}, {slices.Repeat([]int64{math.MinInt64}, api.MaxValues), api.ErrBad},
		{nil, api.ErrNone}, {[]int64{}, api.ErrNone}, {longest[:0], api.ErrNone},
	} {
		check := x.e
		if check == api.ErrNone {
			check = api.OK
		}
		if e := robust.Check(x.l); e != check {
			t.Error("Check", brief(x.l), e, "instead of", check)
		}
		for name, call := range calls() {
			for _, k := range append(badFactors(), of(2, 1)) {
				for _, den := range []int{0, 1, 1001} {
					if some, e := call(x.l, k, 1, den); some || e != x.e {
						t.Error(name, brief(x.l), some, e, "instead of", x.e)
					}
				}
			}
		}
	}
}

// P7.1: lists that are valid.
func TestValid(t *testing.T) {
	most := api.MaxValue
	for _, l := range append(lists(31), []int64{most, -most, 0}) {
		if e := robust.Check(l); e != api.OK {
			t.Error("Check", brief(l), e)
		}
		for name, call := range calls() {
			if _, e := call(l, of(2, 1), 1, 2); e != api.OK {
				t.Error(name, brief(l), e)
			}
		}
	}
}

// badFactors are fractions that are no factor of clipping.
func badFactors() []api.Frac {
	one, two := wide.From(1), wide.From(2)
	long := api.Wide{Mag: slices.Repeat([]uint32{1}, api.MaxLimbs+1)}
	return []api.Frac{
		{}, {Num: one}, {Den: two}, {Num: two, Den: two}, {Num: wide.From(4), Den: two}, {Num: wide.From(-3), Den: wide.From(-2)},
		{Num: two, Den: wide.From(-1)}, {Num: api.Wide{Neg: true}, Den: one}, {Num: api.Wide{Mag: []uint32{2, 0}}, Den: one},
		{Num: two, Den: api.Wide{Mag: []uint32{1, 0}}}, {Num: two, Den: api.Wide{Mag: []uint32{0}}}, {Num: long, Den: one},
		{Num: long, Den: long}, {Num: one, Den: long},
		of(0, 1), of(1, 2), of(-2, 1), of(-1, 1), of(999, 1000), of(1001, 1), of(2001, 2), of(1<<62, 1), of(-1<<62, 3),
	}
}

// P7.3: ErrArg for what is no factor.
func TestFactors(t *testing.T) {
	less, greater := near(big.NewRat(1, 1))
	other, beyond := near(big.NewRat(1000, 1))
	bad := badFactors()
	for _, x := range append(less, beyond...) {
		bad = append(bad, fraction(x))
	}
	// 1000 times the denominator has no valid form.
	long := new(big.Int).Lsh(big.NewInt(1), 32*api.MaxLimbs-1)
	next := new(big.Int).Add(long, big.NewInt(1))
	bad = append(bad, api.Frac{Num: whole(long), Den: whole(next)}, api.Frac{Num: whole(next), Den: wide.From(3)})
	good := []api.Frac{of(1, 1), of(1000, 1), {Num: whole(next), Den: whole(long)}}
	for _, x := range append(greater, other...) {
		good = append(good, fraction(x))
	}
	for _, name := range []string{"Clip", "Trimmed"} {
		for _, l := range [][]int64{{5}, {1, 2, 3, 4, 100}} {
			for _, k := range bad {
				if some, e := calls()[name](l, k, 0, 1); some || e != api.ErrArg {
					t.Error(name, brief(l), brief(k), some, e)
				}
			}
			for _, k := range good {
				if value(k).Cmp(big.NewRat(1000, 1)) > 0 || value(k).Cmp(big.NewRat(1, 1)) < 0 {
					continue
				}
				if some, e := calls()[name](l, k, 0, 1); !some || e != api.OK {
					t.Error(name, brief(l), brief(k), some, e)
				}
			}
		}
	}
}
