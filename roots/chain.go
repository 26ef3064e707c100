package roots

import (
	"iter"

	"planisphere/api"
	"planisphere/sure"
	"planisphere/terms"
)

// chain is a polynomial and others that count its roots by Sturm's rule: the
// number of roots that are greater than a and at most b is that of the changes
// of sign that the chain has at a, less that of those at b.
type chain [][]api.Wide

// sturm returns the chain of a polynomial other than 0. Its first polynomial is
// a multiple of the squarefree part: what a polynomial has in common with its
// derivative divides all remainders of the two, and is the last one.
func sturm(p []api.Wide) chain {
	s := remainders(p, terms.Derivative(p))
	if last := s[len(s)-1]; len(last) > 1 {
		for i := range s {
			s[i] = terms.Quotient(s[i], last)
		}
	}
	return s
}

// common returns the primitive polynomial of the greatest degree that divides
// both, but for its sign. The first one is not 0.
func common(p, q []api.Wide) []api.Wide {
	s := remainders(p, q)
	return s[len(s)-1]
}

// remainders returns two polynomials and the remainders of Euclid's rule up to
// the last one that is not 0, each one divided by its content, and with the
// other sign than that which the rule would give it.
func remainders(p, q []api.Wide) chain {
	s := chain{reduced(p)}
	for len(q) > 0 {
		q = reduced(q)
		s = append(s, q)
		p, q = q, opposite(rest(p, q))
	}
	return s
}

// reduced returns the quotient of a polynomial by its content.
func reduced(p []api.Wide) []api.Wide { return terms.Over(p, terms.Content(p)) }

// opposite returns the negative of a polynomial.
func opposite(p []api.Wide) []api.Wide {
	return terms.List(len(p), func(i int) api.Wide { return sure.Neg(p[i]) })
}

// rest returns the remainder of the division by q, times a whole number greater
// than 0.
func rest(p, q []api.Wide) []api.Wide {
	for len(p) >= len(q) {
		p = terms.Lowered(p, q)
	}
	return p
}

// signs yields the signs of the values at a number that are not 0.
func (s chain) signs(x api.Frac) iter.Seq[int] {
	return func(yield func(int) bool) {
		for _, p := range s {
			if sign := signOf(p, x); sign != 0 && !yield(sign) {
				return
			}
		}
	}
}

// changes returns how often the sign of the values at a number changes.
func (s chain) changes(x api.Frac) int {
	count, last := 0, 0
	for sign := range s.signs(x) {
		if sign == -last {
			count++
		}
		last = sign
	}
	return count
}

// within returns the number of roots in a cell.
func (s chain) within(c api.Cell) int {
	low, high := ends(c)
	return s.changes(low) - s.changes(high)
}

// isRoot reports whether a number is a root.
func (s chain) isRoot(x api.Frac) bool { return signOf(s[0], x) == 0 }

// signOf returns the sign of the value of a polynomial at a number.
func signOf(p []api.Wide, x api.Frac) int {
	num, _ := terms.Value(p, x)
	return sure.Sign(num)
}
