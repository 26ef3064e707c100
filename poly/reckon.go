package poly

import (
	"planisphere/api"
	"planisphere/frac"
	"planisphere/sure"
	"planisphere/terms"
)

// Add returns the sum.
func Add(p, q []api.Wide) ([]api.Wide, api.Errno) { return join(p, q, sum) }

// Sub returns the difference.
func Sub(p, q []api.Wide) ([]api.Wide, api.Errno) { return join(p, q, difference) }

// Mul returns the product.
func Mul(p, q []api.Wide) ([]api.Wide, api.Errno) { return join(p, q, product) }

// Deriv returns the derivative.
func Deriv(p []api.Wide) ([]api.Wide, api.Errno) { return change(p, terms.Derivative) }

func sum(p, q []api.Wide) []api.Wide {
	return terms.List(max(len(p), len(q)), func(i int) api.Wide { return sure.Add(terms.At(p, i), terms.At(q, i)) })
}

func difference(p, q []api.Wide) []api.Wide {
	return terms.List(max(len(p), len(q)), func(i int) api.Wide { return sure.Sub(terms.At(p, i), terms.At(q, i)) })
}

func product(p, q []api.Wide) []api.Wide {
	return terms.List(len(p)+len(q)-1, func(k int) api.Wide {
		total := api.Wide{}
		for i, c := range p {
			total = sure.Add(total, sure.Mul(c, terms.At(q, k-i)))
		}
		return total
	})
}

// Eval returns the value at a fraction.
func Eval(p []api.Wide, x api.Frac) (api.Frac, api.Errno) {
	if e := checkAt(p, x); e != api.OK {
		return api.Frac{}, e
	}
	return frac.Make(terms.Value(p, x))
}

// Sign returns the sign of the value at a fraction.
func Sign(p []api.Wide, x api.Frac) (int, api.Errno) {
	if e := checkAt(p, x); e != api.OK {
		return 0, e
	}
	num, _ := terms.Value(p, x)
	return sure.Sign(num), api.OK
}

// checkAt returns the error of a polynomial or of the fraction at which it is
// looked at.
func checkAt(p []api.Wide, x api.Frac) api.Errno {
	if e := Check(p); e != api.OK {
		return e
	}
	if e := frac.Check(x); e != api.OK {
		return e
	}
	if max(len(x.Num.Mag), len(x.Den.Mag)) > api.MaxPoint {
		return api.ErrMany
	}
	return api.OK
}
