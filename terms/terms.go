// Package terms reckons with polynomials with whole coefficients, that of x^0
// first and the last one other than 0, of any degree and length: it is what
// poly and roots share. Its functions check nothing.
package terms

import (
	"slices"

	"planisphere/api"
	"planisphere/sure"
	"planisphere/wide"
)

// List returns the polynomial of so many coefficients, of which the last ones
// may be 0.
func List(count int, coefficient func(i int) api.Wide) []api.Wide {
	p := make([]api.Wide, 0, max(count, 0))
	degree := -1
	for i := range count {
		p = append(p, coefficient(i))
		if !sure.IsZero(p[i]) {
			degree = i
		}
	}
	return p[: degree+1 : degree+1]
}

// At returns a coefficient, which is 0 beyond both ends of the list.
func At(p []api.Wide, i int) api.Wide {
	if i < 0 || i >= len(p) {
		return api.Wide{}
	}
	return p[i]
}

// Last returns the coefficient of the greatest power of a polynomial other than 0.
func Last(p []api.Wide) api.Wide { return p[len(p)-1] }

// Derivative returns the derivative.
func Derivative(p []api.Wide) []api.Wide {
	return List(len(p)-1, func(i int) api.Wide { return sure.Mul(wide.From(int64(i+1)), p[i+1]) })
}

// Content returns the greatest common divisor of the coefficients.
func Content(p []api.Wide) api.Wide {
	common := api.Wide{}
	for _, c := range p {
		common = sure.Gcd(common, c)
		if sure.IsOne(common) {
			break
		}
	}
	return common
}

// Over returns the quotient by a number that divides all coefficients.
func Over(p []api.Wide, by api.Wide) []api.Wide {
	return List(len(p), func(i int) api.Wide { return sure.Over(p[i], by) })
}

// Lowered returns what is left of a multiple of p, by a whole number greater
// than 0, if a multiple of q, which has no greater degree, is subtracted that
// has the same last term.
func Lowered(p, q []api.Wide) []api.Wide {
	gap := len(p) - len(q)
	common := sure.Gcd(Last(p), Last(q))
	if Last(q).Neg {
		common = sure.Neg(common)
	}
	up, down := sure.Over(Last(q), common), sure.Over(Last(p), common)
	return List(len(p)-1, func(i int) api.Wide {
		return sure.Sub(sure.Mul(up, p[i]), sure.Mul(down, At(q, i-gap)))
	})
}

// Quotient returns the quotient of a polynomial by a primitive one that divides
// it: all its coefficients are whole, by Gauss's lemma.
func Quotient(p, q []api.Wide) []api.Wide {
	parts := make([]api.Wide, len(p)-len(q)+1)
	for gap := len(parts) - 1; gap >= 0; gap-- {
		part := sure.Over(At(p, gap+len(q)-1), Last(q))
		p = List(len(p), func(i int) api.Wide { return sure.Sub(At(p, i), sure.Mul(part, At(q, i-gap))) })
		parts[gap] = part
	}
	return parts
}

// Value returns two numbers whose quotient is the value at a fraction, which
// need not be in lowest terms. The second one is greater than 0.
func Value(p []api.Wide, x api.Frac) (num, den api.Wide) {
	den = wide.From(1)
	for i, c := range slices.Backward(p) {
		num = sure.Add(sure.Mul(num, x.Num), sure.Mul(c, den))
		if i > 0 {
			den = sure.Mul(den, x.Den)
		}
	}
	return num, den
}
