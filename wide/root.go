package wide

import (
	"math/bits"

	"planisphere/api"
)

// Sqrt returns the square root, rounded down.
func Sqrt(w api.Wide) (api.Wide, api.Errno) {
	if e := Check(w); e != api.OK {
		return api.Wide{}, e
	}
	if w.Neg {
		return api.Wide{}, api.ErrArg
	}
	if len(w.Mag) == 0 {
		return api.Wide{}, api.OK
	}
	return made(false, root(w.Mag))
}

// root returns the square root of an absolute value other than 0, rounded down.
//
// It looks at ever more of the highest digits: before each step a is the root
// of the number without its lowest 2 * (half - digits) digits, or the next
// greater number, and one step of Newton's rule keeps that true for about
// twice as many digits. So all of the work is about that of the last division.
func root(mag []uint32) []uint32 {
	half := (length(mag) - 1) / 2
	a := []uint32{1}
	digits := 0
	for i := bits.Len(uint(half)); i > 0; i-- {
		before := digits
		digits = half >> (i - 1)
		q, _ := divide(right(mag, 2*half-before-digits+1), a)
		a = sum(left(a, digits-before-1), q)
	}
	if compare(product(a, a), mag) > 0 {
		a = difference(a, []uint32{1})
	}
	return a
}
