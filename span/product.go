package span

import (
	"math/bits"

	"planisphere/api"
)

// tooGreat stands for all absolute values that no interval has.
const tooGreat = api.MaxIv + 1

// product is the product of two numbers, with the absolute value
// high * 2^64 + low. Equal products are equal structs, unless they are 0.
type product struct {
	neg       bool
	high, low uint64
}

// multiply returns the product of two numbers.
func multiply(x, y int64) product {
	high, low := bits.Mul64(size(x), size(y))
	return product{neg: (x < 0) != (y < 0), high: high, low: low}
}

// size returns the absolute value of a number.
func size(x int64) uint64 {
	if x < 0 {
		return -uint64(x)
	}
	return uint64(x)
}

// over returns the least interval of the quotient of a product and a number
// that is not 0.
func (p product) over(d int64) api.Iv {
	neg := p.neg != (d < 0)
	if p.high >= size(d) {
		return around(neg, tooGreat, false)
	}
	whole, rest := bits.Div64(p.high, p.low, size(d))
	return around(neg, whole, rest > 0)
}

// around returns the least interval of a number whose absolute value has so
// many whole units, and a part of the next one if more is true.
func around(neg bool, whole uint64, more bool) api.Iv {
	a := api.Iv{Lo: int64(min(whole, tooGreat))}
	a.Hi = a.Lo
	if more {
		a.Hi++
	}
	if neg {
		return negative(a)
	}
	return a
}

// square returns the least interval of the square of a number of units.
func square(x int64) api.Iv { return multiply(x, x).over(api.One) }

// squareRoot returns the least interval of the square root of a number of units
// that is not negative.
func squareRoot(x int64) api.Iv {
	// The root of x / One is that of x * One, divided by One.
	p := multiply(x, api.One)
	r := p.root()
	a := api.Iv{Lo: r, Hi: r}
	if multiply(r, r) != p {
		a.Hi++
	}
	return a
}

// root returns the square root of a product that is not negative, rounded
// down, by Newton's rule: each step is less than the one before and at least
// the result, until the result is reached.
func (p product) root() int64 {
	if p == (product{}) {
		return 0
	}
	r := uint64(1) << ((p.length() + 1) / 2)
	for {
		q, _ := bits.Div64(p.high, p.low, r)
		next := (r + q) / 2
		if next >= r {
			return int64(r)
		}
		r = next
	}
}

// length returns how many binary digits the absolute value has.
func (p product) length() int {
	if p.high == 0 {
		return bits.Len64(p.low)
	}
	return 64 + bits.Len64(p.high)
}
