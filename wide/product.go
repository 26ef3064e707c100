package wide

import (
	"math/bits"

	"planisphere/api"
)

// maxPower is the greatest exponent of a power.
const maxPower = 1000

// Mul returns the product.
func Mul(a, b api.Wide) (api.Wide, api.Errno) {
	if e := checkBoth(a, b); e != api.OK {
		return api.Wide{}, e
	}
	// A product other than 0 has as many limbs as both factors, or one less.
	if len(a.Mag)+len(b.Mag)-1 > api.MaxLimbs {
		return api.Wide{}, api.ErrRange
	}
	return made(a.Neg != b.Neg, product(a.Mag, b.Mag))
}

// Pow returns the k-th power.
func Pow(w api.Wide, k int) (api.Wide, api.Errno) {
	if e := Check(w); e != api.OK {
		return api.Wide{}, e
	}
	if k < 0 || k > maxPower {
		return api.Wide{}, api.ErrArg
	}
	p, e := From(1), api.OK
	// From the highest digit of k on, no power on the way is greater than the
	// last one, so that it is out of range only if that is.
	for i := bits.Len(uint(k)); i > 0 && e == api.OK; i-- {
		p, e = Mul(p, p)
		if k>>(i-1)&1 == 1 && e == api.OK {
			p, e = Mul(p, w)
		}
	}
	return p, e
}

// product returns the product of two absolute values. The limbs 0 that they
// begin with take no time: long numbers are often multiplied by powers of 2.
func product(a, b []uint32) []uint32 {
	skip := empty(a) + empty(b)
	a, b = a[empty(a):], b[empty(b):]
	if len(a) < len(b) {
		a, b = b, a
	}
	p := make([]uint32, skip+len(a)+len(b))
	for i, y := range b {
		i += skip
		p[i+len(a)] = addProduct(p[i:], a, y)
	}
	return trim(p)
}

// empty returns how many limbs 0 an absolute value begins with.
func empty(mag []uint32) int {
	i := 0
	for i < len(mag) && mag[i] == 0 {
		i++
	}
	return i
}

// addProduct adds the product of an absolute value and a limb to the first
// limbs of to, and returns the carry.
func addProduct(to, x []uint32, y uint32) uint32 {
	carry := uint64(0)
	to = to[:len(x)]
	for i, d := range x {
		carry += uint64(d)*uint64(y) + uint64(to[i])
		to[i] = uint32(carry)
		carry >>= limbBits
	}
	return uint32(carry)
}

// subProduct subtracts the product of an absolute value and a limb from the
// first limbs of from, and returns what is to be borrowed.
func subProduct(from, x []uint32, y uint32) uint32 {
	carry := uint64(0)
	from = from[:len(x)]
	for i, d := range x {
		carry += uint64(d) * uint64(y)
		left := uint64(from[i]) - uint64(uint32(carry))
		from[i] = uint32(left)
		carry = carry>>limbBits + left>>63
	}
	return uint32(carry)
}
