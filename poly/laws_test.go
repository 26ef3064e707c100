package poly_test

import (
	"math/rand"
	"testing"

	"planisphere/api"
	"planisphere/frac"
	"planisphere/poly"
)

// laws calculates, and fails at the first error.
type laws struct {
	t *testing.T
}

func (l laws) ok(p []api.Wide, e api.Errno) []api.Wide {
	l.t.Helper()
	if e != api.OK || poly.Check(p) != api.OK {
		l.t.Fatal("a result has the error", e, poly.Check(p))
	}
	return p
}

func (l laws) add(p, q []api.Wide) []api.Wide { l.t.Helper(); return l.ok(poly.Add(p, q)) }
func (l laws) sub(p, q []api.Wide) []api.Wide { l.t.Helper(); return l.ok(poly.Sub(p, q)) }
func (l laws) mul(p, q []api.Wide) []api.Wide { l.t.Helper(); return l.ok(poly.Mul(p, q)) }
func (l laws) gcd(p, q []api.Wide) []api.Wide { l.t.Helper(); return l.ok(poly.Gcd(p, q)) }
func (l laws) deriv(p []api.Wide) []api.Wide  { l.t.Helper(); return l.ok(poly.Deriv(p)) }
func (l laws) part(p []api.Wide) []api.Wide   { l.t.Helper(); return l.ok(poly.Primitive(p)) }
func (l laws) free(p []api.Wide) []api.Wide   { l.t.Helper(); return l.ok(poly.Free(p)) }

func (l laws) eval(p []api.Wide, x api.Frac) api.Frac {
	l.t.Helper()
	v, e := poly.Eval(p, x)
	if e != api.OK {
		l.t.Fatal("a value has the error", e)
	}
	return v
}

func (l laws) same(what string, p, q []api.Wide) {
	l.t.Helper()
	if !same(p, q) {
		l.t.Error(what, numbers(p), numbers(q))
	}
}

// value checks a value against what an operation makes of two others.
func (l laws) value(what string, v, a, b api.Frac, operate func(a, b api.Frac) (api.Frac, api.Errno)) {
	l.t.Helper()
	x, e := operate(a, b)
	if e != api.OK || !sameWide(v.Num, x.Num) || !sameWide(v.Den, x.Den) {
		l.t.Error(what, v, x, e)
	}
}

// P4.5: the values of sums and products, and derivatives of products.
func TestValues(t *testing.T) {
	l := laws{t}
	r := rand.New(rand.NewSource(61))
	points := spots(62, 60)
	for range 400 {
		p, q := some(r, 4, 200).wides(), some(r, 4, 200).wides()
		x := fraction(points[r.Intn(len(points))])
		a, b := l.eval(p, x), l.eval(q, x)
		l.value("a sum", l.eval(l.add(p, q), x), a, b, frac.Add)
		l.value("a difference", l.eval(l.sub(p, q), x), a, b, frac.Sub)
		l.value("a product", l.eval(l.mul(p, q), x), a, b, frac.Mul)
		l.same("(p * q)'", l.deriv(l.mul(p, q)), l.add(l.mul(l.deriv(p), q), l.mul(p, l.deriv(q))))
		sign, _ := poly.Sign(p, x)
		if order, _ := frac.Cmp(a, ratio(0, 1)); sign != order {
			t.Error("Sign", numbers(p), x, sign, order)
		}
	}
}

// P4.5: the greatest common divisor of products with a third polynomial.
func TestProducts(t *testing.T) {
	l := laws{t}
	r := rand.New(rand.NewSource(63))
	for range 400 {
		both := some(r, 2, 20).wides()
		p, q := l.mul(some(r, 3, 100).wides(), both), l.mul(some(r, 3, 100).wides(), both)
		third := some(r, 3, 300).wides()
		l.same("Gcd", l.gcd(l.mul(p, third), l.mul(q, third)), l.mul(l.gcd(p, q), l.part(third)))
		l.same("Gcd, exchanged", l.gcd(q, p), l.gcd(p, q))
	}
}

// P4.5: a polynomial and its squarefree part have the same roots; those of the
// squarefree part are none of its derivative.
func TestSquarefree(t *testing.T) {
	l := laws{t}
	for _, p := range shares(64, 300, 2, 30) {
		if len(p) == 0 {
			continue
		}
		part := l.free(p.wides())
		l.same("the divisor with the derivative", l.gcd(part, l.deriv(part)), of(1))
		l.same("the part as a divisor", l.gcd(part, p.wides()), part)
		if _, rest := numbers(part).pow(api.MaxDegree).rats().divide(p.rats()); len(rest) > 0 {
			t.Error("a root that the part does not have", p, numbers(part))
		}
		for _, x := range spots(65, 3) {
			n, e := poly.Sign(p.wides(), fraction(x))
			m, f := poly.Sign(part, fraction(x))
			if e != api.OK || f != api.OK || (n == 0) != (m == 0) {
				t.Error("roots", p, numbers(part), x, n, e, m, f)
			}
		}
	}
}
