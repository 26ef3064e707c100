package poly_test

import (
	"math/big"
	"math/rand"
	"testing"

	"planisphere/api"
	"planisphere/poly"
)

// P4.4: Content and Primitive.
func TestContent(t *testing.T) {
	for _, p := range samples(51, 100) {
		for _, by := range []int64{1, -1, 6, -35} {
			q := p.mul(ints(by))
			if !q.fits() {
				continue
			}
			w, e := poly.Content(q.wides())
			if e != api.OK || !isWide(w, q.content()) {
				t.Error("Content", q, w, e)
			}
			got, e := poly.Primitive(q.wides())
			want(t, "Primitive", got, e, q.primitive())
		}
	}
}

// P4.4: the primitive part of a whole number is 1, and of 0 it is 0.
func TestWhole(t *testing.T) {
	for _, n := range []*big.Int{big.NewInt(1), big.NewInt(-1), big.NewInt(12), most(), minus(most())} {
		w, e := poly.Content(exact{n}.wides())
		if e != api.OK || !isWide(w, new(big.Int).Abs(n)) {
			t.Error("Content", n, w, e)
		}
		got, e := poly.Primitive(exact{n}.wides())
		want(t, "Primitive", got, e, ints(1))
		got, e = poly.Free(exact{n}.wides())
		want(t, "Free", got, e, ints(1))
		for _, other := range []exact{nil, ints(-18), {most()}, ints(12, 24), extremes()[0]} {
			got, e = poly.Gcd(exact{n}.wides(), other.wides())
			want(t, "Gcd with a whole number", got, e, ints(1))
			got, e = poly.Gcd(other.wides(), exact{n}.wides())
			want(t, "Gcd with a whole number", got, e, ints(1))
		}
	}
	w, e := poly.Content(nil)
	if e != api.OK || !isWide(w, new(big.Int)) {
		t.Error("the content of 0", w, e)
	}
	got, e := poly.Primitive(nil)
	want(t, "Primitive of 0", got, e, nil)
	got, e = poly.Free(nil)
	want(t, "Free of 0", got, e, nil)
	got, e = poly.Gcd(nil, nil)
	want(t, "Gcd of 0 and 0", got, e, nil)
}

// P4.4: divisors of polynomials of which one is 0, or both are the same.
func TestOwnDivisor(t *testing.T) {
	for _, p := range samples(52, 30) {
		got, e := poly.Gcd(p.wides(), nil)
		want(t, "Gcd with 0", got, e, p.primitive())
		got, e = poly.Gcd(nil, p.wides())
		want(t, "Gcd of 0", got, e, p.primitive())
		got, e = poly.Gcd(p.wides(), p.wides())
		want(t, "Gcd of the same", got, e, p.primitive())
	}
}

// shares returns polynomials that have a factor in common: products of powers
// of a few.
func shares(seed int64, count, degree, digits int) []exact {
	r := rand.New(rand.NewSource(seed))
	factors := []exact{ints(0, 1), ints(-1, 1), ints(1, 2), ints(1, 1, 1), ints(-2, 0, 3)}
	for range 4 {
		factors = append(factors, some(r, degree, digits))
	}
	var list []exact
	for len(list) < count {
		p := some(r, 1, digits)
		for range r.Intn(4) {
			p = p.mul(factors[r.Intn(len(factors))].pow(1 + r.Intn(3)))
		}
		if p.fits() {
			list = append(list, p)
		}
	}
	return list
}

// P4.4: Gcd of polynomials with and without a common factor.
func TestGcd(t *testing.T) {
	list := append(ordinary(53, 4), shares(54, 40, 2, 20)...)
	for _, p := range list {
		for _, q := range list {
			got, e := poly.Gcd(p.wides(), q.wides())
			want(t, "Gcd", got, e, p.gcd(q))
		}
	}
}

// P4.4: Gcd and Free at the limits of MaxDegree and MaxCoef.
func TestLongest(t *testing.T) {
	r := rand.New(rand.NewSource(55))
	full := func(degree, digits int) exact {
		var p exact
		for range degree + 1 {
			p = append(p, new(big.Int).SetBit(random(r, digits-1), digits-1, 1))
		}
		return p
	}
	p, q := full(8, 1280), full(8, 1280)
	got, e := poly.Gcd(p.wides(), q.wides())
	want(t, "Gcd of long ones", got, e, p.gcd(q))
	got, e = poly.Free(p.wides())
	want(t, "Free of a long one", got, e, p.free())
	for degree := 1; degree <= 7; degree++ {
		common := full(degree, 630)
		p, q = full(8-degree, 640).mul(common), full(8-degree, 640).mul(common)
		got, e = poly.Gcd(p.wides(), q.wides())
		want(t, "Gcd of long ones with a divisor", got, e, common.primitive())
	}
	for degree := 1; degree <= 4; degree++ {
		factor := full(degree, 400)
		p = factor.pow(2).mul(full(8-2*degree, 450))
		got, e = poly.Free(p.wides())
		want(t, "Free of a long one with a divisor", got, e, p.free())
	}
}

// P4.4: Free of polynomials with and without roots of a higher order.
func TestFree(t *testing.T) {
	list := append(ordinary(56, 20), shares(57, 100, 2, 60)...)
	for k := 1; k <= api.MaxDegree; k++ {
		list = append(list, ints(-3, 2).pow(k), ints(0, -1).pow(k), ints(5, 7).pow(k).mul(ints(-12)))
	}
	for _, p := range list {
		got, e := poly.Free(p.wides())
		want(t, "Free", got, e, p.free())
	}
}

// P4.4: the examples of the chapter.
func TestExamples(t *testing.T) {
	got, e := poly.Gcd(of(-2, 0, 2), of(3, 3))
	want(t, "Gcd of 2x^2 - 2 and 3x + 3", got, e, ints(1, 1))
	got, e = poly.Free(of(0, -4, 8, -4))
	want(t, "Free of -4x^3 + 8x^2 - 4x", got, e, ints(0, -1, 1))
}

// steep are polynomials a * x + 1. The products of the last ones with a
// polynomial whose greatest coefficient is 3 are not valid; those with one
// whose greatest coefficient is 2 still are.
func steep() (valid, tooLong []exact) {
	third := new(big.Int).Div(most(), big.NewInt(3))
	half := new(big.Int).Div(most(), big.NewInt(2))
	one := big.NewInt(1)
	return []exact{{one, less(third)}}, []exact{{one, third}, {one, less(half)}}
}

// P4.1: a divisor that has longer coefficients than both polynomials.
func TestLongDivisor(t *testing.T) {
	cube := ints(1, 1).pow(3)
	first, second := cube.mul(ints(-1, 1)), cube.mul(ints(1, -1, 1))
	valid, tooLong := steep()
	for i, factor := range append(valid, tooLong...) {
		p, q := factor.mul(first), factor.mul(second)
		if !p.fits() || !q.fits() || factor.mul(cube).fits() != (i == 0) {
			t.Fatal("the test is wrong", i)
		}
		got, e := poly.Gcd(p.wides(), q.wides())
		want(t, "a long divisor", got, e, factor.mul(cube))
		got, e = poly.Gcd(q.wides(), p.mul(ints(-1)).wides())
		want(t, "a long divisor", got, e, factor.mul(cube))
	}
}

// P4.1: a squarefree part that has longer coefficients than the polynomial.
func TestLongFree(t *testing.T) {
	part := ints(-2, -3, -2, 0, 2, 3, 2)
	valid, tooLong := steep()
	for i, factor := range append(valid, tooLong...) {
		p := factor.mul(part).mul(ints(1, -1))
		if !p.fits() || factor.mul(part).fits() != (i == 0) {
			t.Fatal("the test is wrong", i)
		}
		got, e := poly.Free(p.wides())
		want(t, "a long squarefree part", got, e, factor.mul(part))
	}
}
