package wide

import (
	"slices"

	"planisphere/api"
)

// Gcd returns the greatest common divisor.
func Gcd(a, b api.Wide) (api.Wide, api.Errno) {
	if e := checkBoth(a, b); e != api.OK {
		return api.Wide{}, e
	}
	return made(false, divisor(a.Mag, b.Mag))
}

// divisor returns the greatest common divisor of two absolute values by
// Euclid's rule. While they are long, several of its steps are found from
// their highest digits alone, and then taken at once (Lehmer's rule).
func divisor(a, b []uint32) []uint32 {
	if compare(a, b) < 0 {
		a, b = b, a
	}
	a, b = slices.Clone(a), slices.Clone(b)
	for len(b) > 2 {
		if s := foresee(a, b); s.count > 0 {
			a, b = s.take(a, b)
			continue
		}
		_, rest := divide(a, b)
		a, b = b, rest
	}
	if len(b) == 0 {
		return a
	}
	_, rest := divide(a, b)
	x, y := window(b, 0), window(rest, 0)
	for y > 0 {
		x, y = y, x%y
	}
	return trim([]uint32{uint32(x), uint32(x >> limbBits)})
}

// factors say how much of each of the first two numbers there is in one of
// those that follow from them. One of the two is subtracted from the other.
type factors struct {
	a, b uint64
}

// steps are steps of Euclid's rule: how many, and the two numbers that follow
// from them.
type steps struct {
	count         int
	first, second factors
}

// foresee returns the steps that the highest 64 digits of two numbers
// determine; none if count is not greater than 0. By Collins's condition their
// quotients are those of the whole numbers, and all factors are less than 2^32.
func foresee(a, b []uint32) steps {
	place := length(a) - 64
	x, y := window(a, place), window(b, place)
	// The last step that is looked at is not taken: it has no quotient yet.
	s := steps{count: -1, second: factors{a: 1}}
	next := factors{b: 1}
	for y >= next.b && x-y >= s.second.b+next.b {
		q := x / y
		x, y = y, x-q*y
		after := factors{a: s.second.a + q*next.a, b: s.second.b + q*next.b}
		s.first, s.second, next = s.second, next, after
		s.count++
	}
	return s
}

// take returns what two numbers become by steps, in their memory.
func (s steps) take(a, b []uint32) ([]uint32, []uint32) {
	for len(b) < len(a) {
		b = append(b, 0)
	}
	high := blend{plus: s.first.a, minus: s.first.b}
	low := blend{plus: s.second.b, minus: s.second.a}
	if s.count%2 == 1 {
		// Each step exchanges the number that is subtracted.
		a, b = b, a
		high = blend{plus: s.first.b, minus: s.first.a}
		low = blend{plus: s.second.a, minus: s.second.b}
	}
	for i := range a {
		x, y := uint64(a[i]), uint64(b[i])
		a[i] = high.next(x, y)
		b[i] = low.next(y, x)
	}
	return trim(a), trim(b)
}

// blend is the difference of two products, whose limbs are made one after
// another: the two factors, and what is carried and borrowed.
type blend struct {
	plus, minus  uint64
	carry, short uint64
}

// next returns the next limb of the difference from those of the numbers.
func (t *blend) next(x, y uint64) uint32 {
	t.carry += t.plus * x
	t.short += t.minus * y
	d := uint64(uint32(t.carry)) - uint64(uint32(t.short))
	t.carry >>= limbBits
	t.short = t.short>>limbBits + d>>63
	return uint32(d)
}
