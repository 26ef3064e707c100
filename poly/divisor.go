package poly

import (
	"planisphere/api"
	"planisphere/sure"
	"planisphere/terms"
)

// Content returns the greatest common divisor of the coefficients.
func Content(p []api.Wide) (api.Wide, api.Errno) {
	if e := Check(p); e != api.OK {
		return api.Wide{}, e
	}
	return terms.Content(p), api.OK
}

// Primitive returns the primitive part.
func Primitive(p []api.Wide) ([]api.Wide, api.Errno) { return change(p, primitive) }

// Gcd returns the greatest common divisor.
func Gcd(p, q []api.Wide) ([]api.Wide, api.Errno) { return join(p, q, divisor) }

// Free returns the squarefree part.
func Free(p []api.Wide) ([]api.Wide, api.Errno) { return change(p, free) }

func primitive(p []api.Wide) []api.Wide {
	common := terms.Content(p)
	if len(p) > 0 && terms.Last(p).Neg {
		common = sure.Neg(common)
	}
	return terms.Over(p, common)
}

// divisor returns the greatest common divisor by Euclid's rule. Each remainder
// is made primitive, which keeps its numbers short and does not change what
// divides both.
func divisor(p, q []api.Wide) []api.Wide {
	p, q = primitive(p), primitive(q)
division:
	for {
		switch {
		case len(q) == 0:
			break division
		case len(p) < len(q):
			p, q = q, primitive(p)
		default:
			p = terms.Lowered(p, q)
		}
	}
	return p
}

func free(p []api.Wide) []api.Wide {
	if len(p) == 0 {
		return nil
	}
	p = primitive(p)
	return terms.Quotient(p, divisor(p, terms.Derivative(p)))
}
