package robust

import (
	"planisphere/api"
	"planisphere/frac"
	"planisphere/sure"
	"planisphere/wide"
)

// The greatest factor of clipping.
const maxFactor = 1000

// The binary digits of a part of a long number. The square of a number of
// MaxLimbs limbs has no valid form, but products of its parts do.
const partBits = 32 * api.MaxLimbs / 4

// The binary digits of a near factor, and those behind its point.
const (
	nearBits = 256
	nearFine = 64
)

// factor is a factor of clipping.
type factor struct {
	near     api.Wide   // the factor times 2^nearFine, a little too small
	num, den []api.Wide // the squares of its numbers, in parts
}

// factorOf returns a factor, or ErrArg.
func factorOf(k api.Frac) (factor, api.Errno) {
	up, e := frac.Ceil(k)
	if e != api.OK || sure.Cmp(k.Num, k.Den) < 0 || sure.Cmp(up, wide.From(maxFactor)) > 0 {
		return factor{}, api.ErrArg
	}
	return factor{near: near(k), num: square(k.Num), den: square(k.Den)}, api.OK
}

// near returns a whole number that is less than a factor times 2^nearFine, by
// at most 2.
func near(k api.Frac) api.Wide {
	shift := nearBits - sure.Bits(k.Den)
	num, den := sure.Shift(k.Num, shift), sure.Shift(k.Den, shift)
	return sure.Over(sure.Shift(num, nearFine), sure.Add(den, wide.From(1)))
}

// reach returns the greatest whole number that is at most the factor times the
// square root of a number.
func (k factor) reach(of api.Wide) int64 {
	// Square roots here are less than 2^43, so that the product with the near
	// factor is too small by less than 1.
	product := sure.Mul(sure.Mul(k.near, k.near), of)
	root, _ := wide.Sqrt(sure.Shift(product, -2*nearFine))
	least, _ := wide.Int(root)
	if k.reaches(least+1, of) {
		return least + 1
	}
	return least
}

// reaches reports whether a number greater than 0 is at most the factor times
// the square root of another one: whether this one times the square of num is
// not less than the squares of the first one and of den.
func (k factor) reaches(distance int64, of api.Wide) bool {
	far := wide.From(distance)
	far = sure.Mul(far, far)
	var carry api.Wide
	// There are not less parts of num than of den, as the factor is at least 1.
	for i, part := range k.num {
		carry = sure.Add(carry, sure.Mul(part, of))
		if i < len(k.den) {
			carry = sure.Sub(carry, sure.Mul(k.den[i], far))
		}
		carry = sure.Shift(carry, -partBits)
	}
	return sure.Sign(carry) >= 0
}

// square returns the square of a number that is greater than 0, in parts: the
// sum of each part i times 2^(i * partBits). Parts can be longer than partBits.
func square(w api.Wide) []api.Wide {
	list := parts(w)
	squares := make([]api.Wide, 2*len(list)-1)
	for i, a := range list {
		for k, b := range list {
			squares[i+k] = sure.Add(squares[i+k], sure.Mul(a, b))
		}
	}
	return squares
}

// parts returns a number that is greater than 0 in parts of partBits.
func parts(w api.Wide) []api.Wide {
	var list []api.Wide
	for !sure.IsZero(w) {
		high := sure.Shift(w, -partBits)
		list = append(list, sure.Sub(w, sure.Shift(high, partBits)))
		w = high
	}
	return list
}
