package robust_test

import (
	"math/big"
	"slices"
	"testing"

	"planisphere/api"
	"planisphere/robust"
)

// guard is a list with other numbers behind it.
func guard(l []int64) []int64 { return append(slices.Clone(l), 7, -8)[:len(l)] }

// unchanged reports whether a guarded list is as it was, with the memory
// behind it.
func unchanged(l, was []int64) bool {
	return len(l) == len(was) && slices.Equal(l[:len(was)+2], append(slices.Clone(was), 7, -8))
}

// spare is a number whose limbs have others behind them in memory.
func spare(w api.Wide) api.Wide {
	all := append(slices.Clone(w.Mag), 0xAAAAAAAA, 0xBBBBBBBB)
	return api.Wide{Neg: w.Neg, Mag: all[:len(w.Mag)]}
}

// isSpare reports whether such a number is as it was.
func isSpare(w, was api.Wide) bool {
	return sameWide(w, was) && slices.Equal(w.Mag[:len(was.Mag)+2], append(slices.Clone(was.Mag), 0xAAAAAAAA, 0xBBBBBBBB))
}

// scribble overwrites all the memory of a number.
func scribble(w api.Wide) {
	all := w.Mag[:cap(w.Mag)]
	for i := range all {
		all[i] = 0x55555555
	}
}

// R2: lists are not modified, and results share no memory.
func TestMemory(t *testing.T) {
	for _, l := range lists(51) {
		guarded := guard(l)
		for name, call := range map[string]func(l []int64) (api.Frac, api.Errno){
			"Mean": robust.Mean, "Variance": robust.Variance, "Median": robust.Median, "Deviation": robust.Deviation,
			"Trimmed": func(l []int64) (api.Frac, api.Errno) { return robust.Trimmed(l, of(5, 4)) },
		} {
			first, _ := call(guarded)
			got, _ := call(guarded)
			scribble(got.Num)
			if !sameWide(got.Den, first.Den) {
				t.Error(name, "the numbers of the result share memory")
			}
			scribble(got.Den)
			again, e := call(guarded)
			if e != api.OK || !sameFrac(first, again) {
				t.Error(name, brief(l), "another result has changed")
			}
		}
		if _, e := robust.Percentile(guarded, 1, 3); e != api.OK || robust.Check(guarded) != api.OK {
			t.Error(brief(l), e)
		}
		if !unchanged(guarded, l) {
			t.Error(brief(l), "the list has changed")
		}
	}
}

// R2: factors are not modified, and the indices are new memory.
func TestFactorMemory(t *testing.T) {
	_, greater := near(big.NewRat(5, 4))
	for _, l := range lists(52)[:60] {
		for _, x := range append(greater[:3:3], big.NewRat(1, 1), big.NewRat(1000, 1)) {
			k := fraction(x)
			guarded := api.Frac{Num: spare(k.Num), Den: spare(k.Den)}
			first, _, _ := robust.Clip(l, guarded)
			got, _, e := robust.Clip(l, guarded)
			if e != api.OK {
				t.Error(e)
			}
			all := got[:cap(got)]
			for i := range all {
				all[i] = -1
			}
			trimmed, _ := robust.Trimmed(l, guarded)
			scribble(trimmed.Num)
			scribble(trimmed.Den)
			if again, _, _ := robust.Clip(l, guarded); !slices.Equal(first, again) {
				t.Error(brief(l), "another result has changed")
			}
			if !isSpare(guarded.Num, k.Num) || !isSpare(guarded.Den, k.Den) {
				t.Error(brief(l), "the factor has changed")
			}
		}
	}
}

// R3: lists of limbs that are nil or empty, and empty lists, are the same.
func TestEmpty(t *testing.T) {
	zero, e := robust.Mean([]int64{0})
	want(t, "the mean", zero, e, new(big.Rat))
	k := api.Frac{Num: api.Wide{Mag: []uint32{}}, Den: of(1, 1).Den}
	if _, _, e := robust.Clip([]int64{1}, k); e != api.ErrArg {
		t.Error("the factor 0", e)
	}
	if _, _, e := robust.Clip([]int64{}, k); e != api.ErrNone {
		t.Error("the empty list", e)
	}
}
