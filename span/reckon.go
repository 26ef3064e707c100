package span

import "planisphere/api"

// Add returns the least interval of all sums.
func Add(a, b api.Iv) (api.Iv, api.Errno) { return join(a, b, sum) }

// Sub returns the least interval of all differences.
func Sub(a, b api.Iv) (api.Iv, api.Errno) { return join(a, b, difference) }

// Mul returns the least interval of all products.
func Mul(a, b api.Iv) (api.Iv, api.Errno) { return join(a, b, times) }

// Div returns the least interval of all quotients.
func Div(a, b api.Iv) (api.Iv, api.Errno) {
	if e := checkAll(a, b); e != api.OK {
		return api.Iv{}, e
	}
	if b.Lo <= 0 && b.Hi >= 0 {
		return api.Iv{}, api.ErrZero
	}
	return made(quotient(a, b))
}

// Neg returns the interval of all negatives.
func Neg(a api.Iv) (api.Iv, api.Errno) { return change(a, negative) }

// Abs returns the interval of all absolute values.
func Abs(a api.Iv) (api.Iv, api.Errno) { return change(a, absolute) }

// Sq returns the least interval of all squares.
func Sq(a api.Iv) (api.Iv, api.Errno) {
	return change(a, func(a api.Iv) api.Iv { return rising(absolute(a), square) })
}

// Sqrt returns the least interval of all square roots.
func Sqrt(a api.Iv) (api.Iv, api.Errno) {
	if e := Check(a); e != api.OK {
		return api.Iv{}, e
	}
	if a.Lo < 0 {
		return api.Iv{}, api.ErrArg
	}
	return made(rising(a, squareRoot))
}

// Scale returns the least interval of all products with num / den.
func Scale(a api.Iv, num, den int64) (api.Iv, api.Errno) {
	if e := Check(a); e != api.OK {
		return api.Iv{}, e
	}
	if den == 0 {
		return api.Iv{}, api.ErrZero
	}
	return made(hull(multiply(a.Lo, num).over(den), multiply(a.Hi, num).over(den)))
}

// join returns what an operation makes of two intervals.
func join(a, b api.Iv, operate func(a, b api.Iv) api.Iv) (api.Iv, api.Errno) {
	if e := checkAll(a, b); e != api.OK {
		return api.Iv{}, e
	}
	return made(operate(a, b))
}

// change returns what an operation makes of an interval.
func change(a api.Iv, operate func(a api.Iv) api.Iv) (api.Iv, api.Errno) {
	if e := Check(a); e != api.OK {
		return api.Iv{}, e
	}
	return made(operate(a))
}

func sum(a, b api.Iv) api.Iv { return api.Iv{Lo: a.Lo + b.Lo, Hi: a.Hi + b.Hi} }

func difference(a, b api.Iv) api.Iv { return sum(a, negative(b)) }

func negative(a api.Iv) api.Iv { return api.Iv{Lo: -a.Hi, Hi: -a.Lo} }

func absolute(a api.Iv) api.Iv {
	return api.Iv{Lo: max(a.Lo, -a.Hi, 0), Hi: max(-a.Lo, a.Hi)}
}

func times(a, b api.Iv) api.Iv {
	return corners(a, b, func(x, y int64) api.Iv { return multiply(x, y).over(api.One) })
}

func quotient(a, b api.Iv) api.Iv {
	return corners(a, b, func(x, y int64) api.Iv { return multiply(x, api.One).over(y) })
}

// corners returns the hull of what an operation makes of the ends of two
// intervals. The numbers between them make nothing less or greater, as the
// operation either rises or falls while one of the two stays as it is.
func corners(a, b api.Iv, operate func(x, y int64) api.Iv) api.Iv {
	all := make([]api.Iv, 0, 4)
	for _, x := range [2]int64{a.Lo, a.Hi} {
		for _, y := range [2]int64{b.Lo, b.Hi} {
			all = append(all, operate(x, y))
		}
	}
	return hull(all[0], all[1:]...)
}

// rising returns what an operation makes of an interval, in which it rises.
func rising(a api.Iv, operate func(x int64) api.Iv) api.Iv {
	return api.Iv{Lo: operate(a.Lo).Lo, Hi: operate(a.Hi).Hi}
}
