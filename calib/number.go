package calib

import (
	"planisphere/api"
	"planisphere/frac"
	"planisphere/wide"
)

// number is a fraction in a calculation, with the first error on the way to it.
type number struct {
	api.Frac
	e api.Errno
}

// known returns the result of a function as a number.
func known(f api.Frac, e api.Errno) number { return number{f, e} }

// ratio returns the quotient of two whole numbers.
func ratio(num, den int64) number { return known(frac.Of(num, den)) }

// whole returns a whole number.
func whole(n int64) number { return ratio(n, 1) }

// join returns what an operation makes of two numbers.
func (n number) join(m number, operate func(a, b api.Frac) (api.Frac, api.Errno)) number {
	if n.e != api.OK {
		return n
	}
	if m.e != api.OK {
		return m
	}
	return known(operate(n.Frac, m.Frac))
}

func (n number) plus(m number) number { return n.join(m, frac.Add) }

func (n number) minus(m number) number { return n.join(m, frac.Sub) }

func (n number) times(m number) number { return n.join(m, frac.Mul) }

func (n number) over(m number) number { return n.join(m, frac.Div) }

// is reports whether two numbers are equal.
func (n number) is(m number) bool {
	order, e := frac.Cmp(n.Frac, m.Frac)
	return e == api.OK && order == 0
}

// pixel returns the number rounded, or ErrRange if it has no place in a field.
func (n number) pixel() (int64, api.Errno) {
	if n.e != api.OK {
		return 0, n.e
	}
	nearest, e := frac.Round(n.Frac)
	if e != api.OK {
		return 0, e
	}
	p, e := wide.Int(nearest)
	if e != api.OK || !isPixel(p) {
		return 0, api.ErrRange
	}
	return p, api.OK
}

// filled returns the field whose pixels are numbers, rounded.
func filled(w, h int, at func(i int) number) (api.Field, api.Errno) {
	f := api.Field{W: w, H: h, P: make([]int64, w*h)}
	for i := range f.P {
		p, e := at(i).pixel()
		if e != api.OK {
			return api.Field{}, e
		}
		f.P[i] = p
	}
	return f, api.OK
}
