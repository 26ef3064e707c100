package calib

import (
	"planisphere/api"
	"planisphere/frac"
	"planisphere/robust"
	"planisphere/sure"
	"planisphere/wide"
)

// nearBits are the binary digits of the denominators of factors near a long one.
const nearBits = 256

// factor is a factor of clipping. With one of thousands of limbs a trimmed mean
// takes as long as thousands of others, so that there are two short ones near
// it, a lower and a higher one.
//
// Clipping compares the square of a factor with fractions, whose denominators
// have at most 74 binary digits for MaxStack pixels (the variance times the
// square of their number). Two of these fractions differ by more than 2^-150,
// and the squares of the short factors by less than 2^-230, so that at most one
// fraction is between them. It is less than the square of the long factor, and
// then this one leaves out what the higher one does, in all rounds of all lists;
// or it is greater, and then the long factor leaves out what the lower one does.
type factor struct {
	exact api.Frac
	near  []api.Frac // one of them has the same trimmed means
}

// factorOf returns a factor, or ErrArg.
func factorOf(k api.Frac) (*factor, api.Errno) {
	if e := checkFactor(k); e != api.OK {
		return nil, e
	}
	return &factor{exact: k, near: nearOf(k)}, api.OK
}

// checkFactor returns ErrArg if a fraction is no factor.
func checkFactor(k api.Frac) api.Errno {
	_, e := robust.Trimmed([]int64{0}, k)
	return e
}

// nearOf returns a short factor alone, and those near a long one.
func nearOf(k api.Frac) []api.Frac {
	surplus := sure.Bits(k.Den) - nearBits
	if surplus <= 0 {
		return []api.Frac{k}
	}
	one := wide.From(1)
	num, den := sure.Shift(k.Num, -surplus), sure.Shift(k.Den, -surplus)
	lower := known(frac.Make(num, sure.Add(den, one)))
	higher := known(frac.Make(sure.Add(num, one), den))
	var l []api.Frac
	for _, n := range []number{lower, higher} {
		// If one is beyond the least or the greatest factor, this bound is the
		// fraction between the two, and the other one does what the long one does.
		if checkFactor(n.Frac) == api.OK {
			l = append(l, n.Frac)
		}
	}
	return l
}

// trimmed returns the trimmed mean of the pixels of a stack.
func (f *factor) trimmed(l []int64) number {
	first := known(robust.Trimmed(l, f.near[0]))
	if len(f.near) == 1 {
		return first
	}
	second := known(robust.Trimmed(l, f.near[1]))
	if second.is(first) {
		return first
	}
	mean := known(robust.Trimmed(l, f.exact))
	if mean.is(first) {
		f.near = f.near[:1]
	} else {
		f.near = f.near[1:]
	}
	return mean
}
