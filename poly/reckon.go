package poly

import (
	"slices"

	"planisphere/api"
	"planisphere/frac"
	"planisphere/wide"
)

// Add returns the sum.
func Add(p, q []api.Wide) ([]api.Wide, api.Errno) { return join(p, q, sum) }

// Sub returns the difference.
func Sub(p, q []api.Wide) ([]api.Wide, api.Errno) { return join(p, q, difference) }

// Mul returns the product.
func Mul(p, q []api.Wide) ([]api.Wide, api.Errno) { return join(p, q, product) }

// Deriv returns the derivative.
func Deriv(p []api.Wide) ([]api.Wide, api.Errno) { return change(p, derivative) }

func sum(p, q []api.Wide) []api.Wide {
	return list(max(len(p), len(q)), func(i int) api.Wide { return plus(at(p, i), at(q, i)) })
}

func difference(p, q []api.Wide) []api.Wide {
	return list(max(len(p), len(q)), func(i int) api.Wide { return minus(at(p, i), at(q, i)) })
}

func product(p, q []api.Wide) []api.Wide {
	return list(max(len(p)+len(q)-1, 0), func(k int) api.Wide {
		total := api.Wide{}
		for i, c := range p {
			total = plus(total, times(c, at(q, k-i)))
		}
		return total
	})
}

func derivative(p []api.Wide) []api.Wide {
	return list(max(len(p)-1, 0), func(i int) api.Wide { return times(wide.From(int64(i+1)), p[i+1]) })
}

// Eval returns the value at a fraction.
func Eval(p []api.Wide, x api.Frac) (api.Frac, api.Errno) {
	if e := checkAt(p, x); e != api.OK {
		return api.Frac{}, e
	}
	return frac.Make(value(p, x))
}

// Sign returns the sign of the value at a fraction.
func Sign(p []api.Wide, x api.Frac) (int, api.Errno) {
	if e := checkAt(p, x); e != api.OK {
		return 0, e
	}
	num, _ := value(p, x)
	return wide.Sign(num)
}

// checkAt returns the error of a polynomial or of the fraction at which it is
// looked at.
func checkAt(p []api.Wide, x api.Frac) api.Errno {
	if e := Check(p); e != api.OK {
		return e
	}
	if e := frac.Check(x); e != api.OK {
		return e
	}
	if max(len(x.Num.Mag), len(x.Den.Mag)) > api.MaxPoint {
		return api.ErrMany
	}
	return api.OK
}

// value returns two numbers whose quotient is the value at a fraction. The
// second one is greater than 0.
func value(p []api.Wide, x api.Frac) (num, den api.Wide) {
	den = wide.From(1)
	for i, c := range slices.Backward(p) {
		num = plus(times(num, x.Num), times(c, den))
		if i > 0 {
			den = times(den, x.Den)
		}
	}
	return num, den
}
