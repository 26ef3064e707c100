package poly_test

import (
	"math/big"
	"testing"

	"planisphere/api"
	"planisphere/poly"
)

// P4.2: sums, differences and products.
func TestRing(t *testing.T) {
	list := samples(31, 12)
	for _, p := range list {
		for _, q := range list {
			got, e := poly.Add(p.wides(), q.wides())
			want(t, "Add", got, e, p.add(q))
			got, e = poly.Sub(p.wides(), q.wides())
			want(t, "Sub", got, e, p.sub(q))
			got, e = poly.Mul(p.wides(), q.wides())
			want(t, "Mul", got, e, p.mul(q))
		}
	}
}

// P4.2: the derivative.
func TestDeriv(t *testing.T) {
	for _, p := range samples(32, 100) {
		got, e := poly.Deriv(p.wides())
		want(t, "Deriv", got, e, p.deriv())
	}
}

// P4.2: results that have a lower degree than the arguments, down to 0.
func TestCancelled(t *testing.T) {
	for _, p := range samples(33, 30) {
		negative := p.mul(ints(-1)).wides()
		got, e := poly.Add(p.wides(), negative)
		want(t, "p - p", got, e, nil)
		got, e = poly.Sub(p.wides(), p.wides())
		want(t, "p - p", got, e, nil)
		got, e = poly.Mul(p.wides(), nil)
		want(t, "p * 0", got, e, nil)
		got, e = poly.Mul(nil, p.wides())
		want(t, "0 * p", got, e, nil)
		got, e = poly.Add(nil, p.wides())
		want(t, "0 + p", got, e, p)
		got, e = poly.Sub(nil, p.wides())
		want(t, "0 - p", got, e, p.mul(ints(-1)))
	}
	for _, x := range []struct{ p, q, sum exact }{
		{ints(1, 2, 3), ints(4, 5, -3), ints(5, 7)},
		{ints(1, 2, 3), ints(4, -2, -3), ints(5)},
		{ints(1, 0, 0, 7), ints(2, 0, 0, -7), ints(3)},
		{ints(0, 1, 0, 0, 1), ints(0, 0, 0, 0, -1), ints(0, 1)},
		{ints(1), ints(-1), nil},
	} {
		got, e := poly.Add(x.p.wides(), x.q.wides())
		want(t, "Add", got, e, x.sum)
		got, e = poly.Sub(x.p.wides(), x.q.mul(ints(-1)).wides())
		want(t, "Sub", got, e, x.sum)
	}
	for _, c := range []int64{0, 1, -9} {
		got, e := poly.Deriv(of(c))
		want(t, "the derivative of a constant", got, e, nil)
	}
}

// monomial is c * x^k.
func monomial(c *big.Int, k int) exact { return ints(0, 1).pow(k).mul(exact{c}) }

// minus, less and more are the negative of a number, and its neighbours.
func minus(n *big.Int) *big.Int { return new(big.Int).Neg(n) }
func less(n *big.Int) *big.Int  { return new(big.Int).Sub(n, big.NewInt(1)) }
func more(n *big.Int) *big.Int  { return new(big.Int).Add(n, big.NewInt(1)) }

// P4.1: results that are just valid, and those that are just not.
func TestRange(t *testing.T) {
	greatest, half := most(), new(big.Int).Lsh(big.NewInt(1), 32*api.MaxCoef-1)
	root := new(big.Int).Lsh(big.NewInt(1), 32*api.MaxCoef/2)
	unit := func(k int) exact { return monomial(big.NewInt(1), k) }
	for _, x := range []struct {
		what string
		call binary
		p, q exact
		want exact
		e    api.Errno
	}{
		{"greatest + 0", poly.Add, exact{greatest}, nil, exact{greatest}, api.OK},
		{"greatest + 1", poly.Add, exact{greatest}, ints(1), nil, api.ErrRange},
		{"-greatest - 1", poly.Sub, exact{minus(greatest)}, ints(1), nil, api.ErrRange},
		{"half + half - 1", poly.Add, exact{half}, exact{less(half)}, exact{greatest}, api.OK},
		{"half + half", poly.Add, exact{half}, exact{half}, nil, api.ErrRange},
		{"half - -half", poly.Sub, exact{half}, exact{minus(half)}, nil, api.ErrRange},
		{"greatest x + x", poly.Add, monomial(greatest, 1), ints(-1, 1), nil, api.ErrRange},
		{"a term in the middle", poly.Add, monomial(greatest, 1).add(ints(0, 0, 5)), ints(0, 1, -5), nil, api.ErrRange},
		{"greatest - greatest", poly.Add, monomial(greatest, 8), monomial(minus(greatest), 8), nil, api.OK},
		{"x^4 * x^4", poly.Mul, unit(4), unit(4), unit(8), api.OK},
		{"x^5 * x^4", poly.Mul, unit(5), unit(4), nil, api.ErrRange},
		{"x^8 * x", poly.Mul, unit(8), unit(1), nil, api.ErrRange},
		{"x^8 * x^8", poly.Mul, unit(8), unit(8), nil, api.ErrRange},
		{"x^8 * 3", poly.Mul, unit(8), ints(3), monomial(big.NewInt(3), 8), api.OK},
		{"x^8 * 0", poly.Mul, unit(8), nil, nil, api.OK},
		{"greatest x^8 * -1", poly.Mul, monomial(greatest, 8), ints(-1), monomial(minus(greatest), 8), api.OK},
		{"half * 2", poly.Mul, exact{half}, ints(2), nil, api.ErrRange},
		{"(half - 1) * 2", poly.Mul, exact{less(half)}, ints(2), exact{less(greatest)}, api.OK},
		{"root * root", poly.Mul, exact{root}, exact{root}, nil, api.ErrRange},
		{"(root - 1) * (root + 1)", poly.Mul, exact{less(root)}, exact{more(root)}, exact{greatest}, api.OK},
		{"greatest * greatest", poly.Mul, exact{greatest}, exact{greatest}, nil, api.ErrRange},
		{"a sum of products", poly.Mul, exact{half, half}, ints(1, 1), nil, api.ErrRange},
		{"a difference of products", poly.Mul, exact{half, half}, ints(-1, 1), exact{minus(half), new(big.Int), half}, api.OK},
	} {
		got, e := x.call(x.p.wides(), x.q.wides())
		if e != x.e || !is(got, x.want) {
			t.Error(x.what, numbers(got), e)
		}
	}
}

// P4.1: derivatives that are just valid, and those that are just not.
func TestDerivRange(t *testing.T) {
	for k := 1; k <= api.MaxDegree; k++ {
		share := new(big.Int).Div(most(), big.NewInt(int64(k)))
		for _, c := range []*big.Int{share, minus(share)} {
			p := monomial(c, k).add(ints(7))
			got, e := poly.Deriv(p.wides())
			want(t, "a derivative that is just valid", got, e, p.deriv())
		}
		if k == 1 {
			continue
		}
		for _, c := range []*big.Int{more(share), minus(more(share))} {
			got, e := poly.Deriv(monomial(c, k).add(ints(7)).wides())
			fails(t, "a derivative that is just not valid", got, e, api.ErrRange)
		}
	}
}
