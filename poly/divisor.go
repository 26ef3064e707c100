package poly

import "planisphere/api"

// Content returns the greatest common divisor of the coefficients.
func Content(p []api.Wide) (api.Wide, api.Errno) {
	if e := Check(p); e != api.OK {
		return api.Wide{}, e
	}
	return content(p), api.OK
}

// Primitive returns the primitive part.
func Primitive(p []api.Wide) ([]api.Wide, api.Errno) { return change(p, primitive) }

// Gcd returns the greatest common divisor.
func Gcd(p, q []api.Wide) ([]api.Wide, api.Errno) { return join(p, q, divisor) }

// Free returns the squarefree part.
func Free(p []api.Wide) ([]api.Wide, api.Errno) { return change(p, free) }

func content(p []api.Wide) api.Wide {
	common := api.Wide{}
	for _, c := range p {
		common = shared(common, c)
		if isOne(common) {
			break
		}
	}
	return common
}

func primitive(p []api.Wide) []api.Wide {
	common := content(p)
	if len(p) > 0 && p[len(p)-1].Neg {
		common = minus(api.Wide{}, common)
	}
	return list(len(p), func(i int) api.Wide { return over(p[i], common) })
}

// divisor returns the greatest common divisor by Euclid's rule. Each remainder
// is made primitive, which keeps its numbers short and does not change what
// divides both.
func divisor(p, q []api.Wide) []api.Wide {
	p, q = primitive(p), primitive(q)
division:
	for {
		switch {
		case len(q) == 0:
			break division
		case len(p) < len(q):
			p, q = q, primitive(p)
		default:
			p = lowered(p, q)
		}
	}
	return p
}

// lowered returns what is left of a whole multiple of p if a multiple of q,
// which has no greater degree, is subtracted that has the same last term.
func lowered(p, q []api.Wide) []api.Wide {
	n, gap := len(p)-1, len(p)-len(q)
	last, other := p[n], q[len(q)-1]
	common := shared(last, other)
	up, down := over(other, common), over(last, common)
	return list(n, func(i int) api.Wide {
		return minus(times(up, p[i]), times(down, at(q, i-gap)))
	})
}

func free(p []api.Wide) []api.Wide {
	if len(p) == 0 {
		return nil
	}
	p = primitive(p)
	return quotient(p, divisor(p, derivative(p)))
}

// quotient returns the quotient of two primitive polynomials of which the
// second one divides the first one. It is primitive, too, so all its
// coefficients are whole.
func quotient(p, q []api.Wide) []api.Wide {
	last := q[len(q)-1]
	parts := make([]api.Wide, len(p)-len(q)+1)
	for gap := len(parts) - 1; gap >= 0; gap-- {
		part := over(at(p, gap+len(q)-1), last)
		p = list(len(p), func(i int) api.Wide { return minus(at(p, i), times(part, at(q, i-gap))) })
		parts[gap] = part
	}
	return parts
}
