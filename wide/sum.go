package wide

import (
	"cmp"
	"iter"
	"slices"

	"planisphere/api"
)

// sign is true for negative numbers.
type sign bool

func (s sign) same(other bool) bool { return bool(s) == other }

func (s sign) differs(other bool) bool { return bool(s) != other }

// Add returns the sum.
func Add(a, b api.Wide) (api.Wide, api.Errno) {
	return join(a, b, sign(a.Neg).same)
}

// Sub returns the difference.
func Sub(a, b api.Wide) (api.Wide, api.Errno) {
	return join(a, b, sign(a.Neg).differs)
}

// join adds or subtracts: grows says for which signs of b it leads away from 0.
func join(a, b api.Wide, grows func(bool) bool) (api.Wide, api.Errno) {
	if e := checkBoth(a, b); e != api.OK {
		return api.Wide{}, e
	}
	if grows(b.Neg) {
		return made(a.Neg, sum(a.Mag, b.Mag))
	}
	if compare(a.Mag, b.Mag) < 0 {
		return made(!a.Neg, difference(b.Mag, a.Mag))
	}
	return made(a.Neg, difference(a.Mag, b.Mag))
}

// columns yields the limbs of two absolute values side by side, the lowest
// ones first: 0 for the second one, which is not longer, where it has ended.
func columns(a, b []uint32) iter.Seq2[uint64, uint64] {
	return func(yield func(uint64, uint64) bool) {
		for i, x := range a {
			if !yield(uint64(x), limb(b, i)) {
				return
			}
		}
	}
}

// sum returns the sum of two absolute values.
func sum(a, b []uint32) []uint32 {
	if len(a) < len(b) {
		a, b = b, a
	}
	total := make([]uint32, 0, len(a)+1)
	carry := uint64(0)
	for x, y := range columns(a, b) {
		carry += x + y
		total = append(total, uint32(carry))
		carry >>= limbBits
	}
	return trim(append(total, uint32(carry)))
}

// difference returns the difference of two absolute values, of which the
// second one is not greater.
func difference(a, b []uint32) []uint32 {
	rest := make([]uint32, 0, len(a))
	borrow := uint64(0)
	for x, y := range columns(a, b) {
		d := x - y - borrow
		rest = append(rest, uint32(d))
		borrow = d >> 63
	}
	return trim(rest)
}

// compare returns -1, 0 or 1 as an absolute value is less than, equal to or
// greater than another one.
func compare(a, b []uint32) int {
	if len(a) != len(b) {
		return cmp.Compare(len(a), len(b))
	}
	for i, x := range slices.Backward(a) {
		if x != b[i] {
			return cmp.Compare(x, b[i])
		}
	}
	return 0
}
