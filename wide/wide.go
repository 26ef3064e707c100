// Package wide is layer 1, whole numbers of any size: see shared/doc/01-wide.md.
//
// The functions of other files work on absolute values: lists of limbs, the
// lowest one first. What they return is new memory, and its last limb is not
// 0, if that holds for their arguments.
package wide

import (
	"math/bits"
	"slices"

	"planisphere/api"
)

// limbBits is the number of binary digits of a limb.
const limbBits = 32

// Check returns ErrBad if a number is not valid.
func Check(w api.Wide) api.Errno {
	n := len(w.Mag)
	switch {
	case n > api.MaxLimbs:
		return api.ErrBad
	case n == 0 && w.Neg:
		return api.ErrBad
	case n > 0 && w.Mag[n-1] == 0:
		return api.ErrBad
	}
	return api.OK
}

// checkBoth returns the error of the first of two numbers that has one.
func checkBoth(a, b api.Wide) api.Errno {
	if e := Check(a); e != api.OK {
		return e
	}
	return Check(b)
}

// made returns the number with an absolute value and a sign.
func made(neg bool, mag []uint32) (api.Wide, api.Errno) {
	if len(mag) > api.MaxLimbs {
		return api.Wide{}, api.ErrRange
	}
	if len(mag) == 0 {
		return api.Wide{}, api.OK
	}
	return api.Wide{Neg: neg, Mag: mag}, api.OK
}

// From returns a number.
func From(n int64) api.Wide {
	size := uint64(n)
	if n < 0 {
		size = -size
	}
	return api.Wide{Neg: n < 0, Mag: trim([]uint32{uint32(size), uint32(size >> limbBits)})}
}

// Int returns the int64 of a number.
func Int(w api.Wide) (int64, api.Errno) {
	if e := Check(w); e != api.OK {
		return 0, e
	}
	size := window(w.Mag, 0)
	most := uint64(1<<63 - 1)
	if w.Neg {
		// The negative numbers reach one further than the others.
		most++
	}
	if len(w.Mag) > 2 || size > most {
		return 0, api.ErrRange
	}
	if w.Neg {
		return int64(-size), api.OK
	}
	return int64(size), api.OK
}

// Neg returns the negative.
func Neg(w api.Wide) (api.Wide, api.Errno) {
	if e := Check(w); e != api.OK {
		return api.Wide{}, e
	}
	return made(!w.Neg, slices.Clone(w.Mag))
}

// Abs returns the absolute value.
func Abs(w api.Wide) (api.Wide, api.Errno) {
	if e := Check(w); e != api.OK {
		return api.Wide{}, e
	}
	return made(false, slices.Clone(w.Mag))
}

// Cmp returns -1 if a is less than b, 1 if it is greater, and 0 if they are equal.
func Cmp(a, b api.Wide) (int, api.Errno) {
	if e := checkBoth(a, b); e != api.OK {
		return 0, e
	}
	if a.Neg != b.Neg {
		return side(a.Neg), api.OK
	}
	return side(a.Neg) * compare(a.Mag, b.Mag), api.OK
}

// Sign compares a number with 0.
func Sign(w api.Wide) (int, api.Errno) {
	if e := Check(w); e != api.OK || len(w.Mag) == 0 {
		return 0, e
	}
	return side(w.Neg), api.OK
}

// side returns -1 for negative numbers, and 1 for others.
func side(neg bool) int {
	if neg {
		return -1
	}
	return 1
}

// Bits returns how many binary digits the absolute value has.
func Bits(w api.Wide) (int, api.Errno) {
	if e := Check(w); e != api.OK {
		return 0, e
	}
	return length(w.Mag), api.OK
}

// length returns how many binary digits an absolute value has.
func length(mag []uint32) int {
	n := len(mag)
	if n == 0 {
		return 0
	}
	return (n-1)*limbBits + bits.Len32(mag[n-1])
}

// trim returns limbs without the last ones that are 0.
func trim(mag []uint32) []uint32 {
	n := len(mag)
	for n > 0 && mag[n-1] == 0 {
		n--
	}
	return mag[:n]
}

// window returns the 64 binary digits of an absolute value from a place on,
// with digits 0 where it has ended.
func window(mag []uint32, place int) uint64 {
	i, k := place/limbBits, place%limbBits
	low := limb(mag, i) | limb(mag, i+1)<<limbBits
	return low>>k | limb(mag, i+2)<<(2*limbBits-k)
}

// limb returns a limb, or 0 where there is none.
func limb(mag []uint32, i int) uint64 {
	if i < len(mag) {
		return uint64(mag[i])
	}
	return 0
}
