package wide

import (
	"math/bits"
	"slices"

	"planisphere/api"
)

// DivMod returns the quotient, rounded down, and the remainder.
func DivMod(a, b api.Wide) (q, r api.Wide, e api.Errno) {
	if e := checkBoth(a, b); e != api.OK {
		return api.Wide{}, api.Wide{}, e
	}
	if len(b.Mag) == 0 {
		return api.Wide{}, api.Wide{}, api.ErrZero
	}
	whole, rest := divide(a.Mag, b.Mag)
	if a.Neg != b.Neg && len(rest) > 0 {
		// A negative quotient that is not whole lies one lower than that of the
		// absolute values.
		whole, rest = sum(whole, []uint32{1}), difference(b.Mag, rest)
	}
	// Neither can be out of range: they are no greater than a and b.
	q, _ = made(a.Neg != b.Neg, whole)
	r, _ = made(b.Neg, rest)
	return q, r, api.OK
}

// divide returns the quotient and the remainder of two absolute values, of
// which the second one is not 0.
func divide(a, b []uint32) (q, r []uint32) {
	if compare(a, b) < 0 {
		return nil, slices.Clone(a)
	}
	if len(b) == 1 {
		q = slices.Clone(a)
		rest := divideLimb(q, b[0])
		return trim(q), trim([]uint32{rest})
	}
	return divideLong(a, b)
}

// divideLimb replaces an absolute value by its quotient by a limb, and returns
// the remainder.
func divideLimb(mag []uint32, by uint32) uint32 {
	rest := uint64(0)
	for i := len(mag) - 1; i >= 0; i-- {
		rest = rest<<limbBits | uint64(mag[i])
		mag[i] = uint32(rest / uint64(by))
		rest %= uint64(by)
	}
	return uint32(rest)
}

// divideLong divides by hand, a limb of the quotient after another. The second
// value has at least two limbs, and is not greater than the first one.
func divideLong(a, b []uint32) (q, r []uint32) {
	// With the highest binary digit of the divisor in its place a guess is at
	// most 1 too great.
	up := bits.LeadingZeros32(b[len(b)-1])
	b = left(b, up)
	n := len(b)
	rest := make([]uint32, len(a)+1)
	copy(rest, left(a, up))
	q = make([]uint32, len(rest)-n)
	for i := len(q) - 1; i >= 0; i-- {
		part := rest[i : i+n+1]
		digit := guess(part, b)
		borrow := subProduct(part, b, digit)
		over := borrow > part[n]
		part[n] -= borrow
		if over {
			digit--
			part[n] += addProduct(part, b, 1)
		}
		q[i] = digit
	}
	return trim(q), right(trim(rest), up)
}

// guess returns the quotient of an absolute value and a divisor with one limb
// less, or the next greater number, from their highest limbs.
func guess(part, b []uint32) uint32 {
	n := len(b)
	high := uint64(part[n])<<limbBits | uint64(part[n-1])
	digit, rest := high/uint64(b[n-1]), high%uint64(b[n-1])
	for digit > 1<<limbBits-1 || digit*uint64(b[n-2]) > rest<<limbBits|uint64(part[n-2]) {
		digit--
		rest += uint64(b[n-1])
		if rest > 1<<limbBits-1 {
			break
		}
	}
	return uint32(digit)
}
