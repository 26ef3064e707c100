package wide

import (
	"math/bits"

	"planisphere/api"
)

// maxBits is the number of binary digits of the greatest number.
const maxBits = api.MaxLimbs * limbBits

// Shift returns the number times 2^k, rounded down.
func Shift(w api.Wide, k int) (api.Wide, api.Errno) {
	if e := Check(w); e != api.OK {
		return api.Wide{}, e
	}
	if k < -maxBits || k > maxBits {
		return api.Wide{}, api.ErrArg
	}
	if k >= 0 {
		return made(w.Neg, left(w.Mag, k))
	}
	down := right(w.Mag, -k)
	if w.Neg && zeros(w.Mag) < -k {
		// Down is away from 0 where digits of a negative number are lost.
		down = sum(down, []uint32{1})
	}
	return made(w.Neg, down)
}

// left returns an absolute value times 2^k.
func left(mag []uint32, k int) []uint32 {
	skip, k := k/limbBits, k%limbBits
	up := make([]uint32, skip, skip+len(mag)+1)
	carry := uint64(0)
	for _, x := range mag {
		carry |= uint64(x) << k
		up = append(up, uint32(carry))
		carry >>= limbBits
	}
	return trim(append(up, uint32(carry)))
}

// right returns an absolute value divided by 2^k, rounded down.
func right(mag []uint32, k int) []uint32 {
	n := max(length(mag)-k, 0)
	down := make([]uint32, (n+limbBits-1)/limbBits)
	for i := range down {
		down[i] = uint32(window(mag, k+i*limbBits))
	}
	return down
}

// zeros returns how many binary digits 0 an absolute value other than 0 ends with.
func zeros(mag []uint32) int {
	for i, x := range mag {
		if x != 0 {
			return i*limbBits + bits.TrailingZeros32(x)
		}
	}
	return 0
}
