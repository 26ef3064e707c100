package robust

import (
	"math/bits"

	"planisphere/api"
	"planisphere/frac"
	"planisphere/sure"
	"planisphere/wide"
)

// powers are those of an element, from 0 to 2, or their sums over several
// elements. The square has two parts, 2^32 times the third number and the
// fourth one, as the square of MaxValue alone has 65 binary digits.
type powers [4]int64

// powersOf returns the powers of an element.
func powersOf(x int64) powers {
	size := uint64(max(x, -x))
	high, low := bits.Mul64(size, size)
	return powers{1, x, int64(high<<32 | low>>32), int64(low & (1<<32 - 1))}
}

// total returns the sums of the powers of all elements.
func total(l []int64) powers {
	var sum powers
	for _, x := range l {
		for i, power := range powersOf(x) {
			sum[i] += power
		}
	}
	return sum
}

// mean returns the mean of the elements.
func (p powers) mean() (api.Frac, api.Errno) { return frac.Of(p[1], p[0]) }

// spread returns the variance times the square of the number of elements.
func (p powers) spread() api.Wide {
	sum := wide.From(p[1])
	squares := sure.Add(sure.Shift(wide.From(p[2]), 32), wide.From(p[3]))
	return sure.Sub(sure.Mul(wide.From(p[0]), squares), sure.Mul(sum, sum))
}

// distance returns the difference between a number and the mean, without its
// sign, times the number of elements.
func (p powers) distance(x int64) int64 {
	gap := p[0]*x - p[1]
	return max(gap, -gap)
}
