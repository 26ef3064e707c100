package poly_test

import (
	"math/big"
	"math/rand"
	"slices"
	"testing"

	"planisphere/api"
	"planisphere/poly"
	"planisphere/wide"
)

// exact is a polynomial as the tests reckon with it: of any degree, with
// coefficients of any size, of which the last one is not 0.
type exact []*big.Int

// ints is a polynomial with small coefficients.
func ints(l ...int64) exact {
	var p exact
	for _, n := range l {
		p = append(p, big.NewInt(n))
	}
	return p.cut()
}

// of is the same as api.Wide.
func of(l ...int64) []api.Wide { return ints(l...).wides() }

// whole is a number of any size as api.Wide.
func whole(n *big.Int) api.Wide {
	w := api.Wide{Neg: n.Sign() < 0}
	for rest := new(big.Int).Abs(n); rest.Sign() > 0; rest.Rsh(rest, 32) {
		w.Mag = append(w.Mag, uint32(rest.Uint64()))
	}
	return w
}

// number is what an api.Wide stands for.
func number(w api.Wide) *big.Int {
	n := new(big.Int)
	for _, limb := range slices.Backward(w.Mag) {
		n.Or(n.Lsh(n, 32), big.NewInt(int64(limb)))
	}
	if w.Neg {
		n.Neg(n)
	}
	return n
}

// wides is a polynomial as a list of api.Wide.
func (p exact) wides() []api.Wide {
	var l []api.Wide
	for _, n := range p {
		l = append(l, whole(n))
	}
	return l
}

// numbers is the polynomial of a list.
func numbers(l []api.Wide) exact {
	var p exact
	for _, w := range l {
		p = append(p, number(w))
	}
	return p
}

// fits reports whether a polynomial is valid.
func (p exact) fits() bool {
	for _, n := range p {
		if n.BitLen() > 32*api.MaxCoef {
			return false
		}
	}
	return len(p) <= api.MaxDegree+1
}

// cut is a polynomial without the zeros at its end.
func (p exact) cut() exact {
	for len(p) > 0 && p[len(p)-1].Sign() == 0 {
		p = p[:len(p)-1]
	}
	return p
}

// at is a coefficient, 0 behind the last one.
func (p exact) at(i int) *big.Int {
	if i < len(p) {
		return p[i]
	}
	return new(big.Int)
}

func (p exact) add(q exact) exact {
	var sum exact
	for i := range max(len(p), len(q)) {
		sum = append(sum, new(big.Int).Add(p.at(i), q.at(i)))
	}
	return sum.cut()
}

func (p exact) sub(q exact) exact { return p.add(q.mul(ints(-1))) }

func (p exact) mul(q exact) exact {
	product := make(exact, len(p)+len(q))
	for k := range product {
		product[k] = new(big.Int)
		for i := range k + 1 {
			product[k].Add(product[k], new(big.Int).Mul(p.at(i), q.at(k-i)))
		}
	}
	return product.cut()
}

func (p exact) pow(k int) exact {
	power := ints(1)
	for range k {
		power = power.mul(p)
	}
	return power
}

func (p exact) deriv() exact {
	var d exact
	for i := 1; i < len(p); i++ {
		d = append(d, new(big.Int).Mul(p[i], big.NewInt(int64(i))))
	}
	return d.cut()
}

// eval is the value at a number, term by term.
func (p exact) eval(x *big.Rat) *big.Rat {
	sum, power := new(big.Rat), big.NewRat(1, 1)
	for _, n := range p {
		sum.Add(sum, new(big.Rat).Mul(power, new(big.Rat).SetInt(n)))
		power.Mul(power, x)
	}
	return sum
}

func (p exact) content() *big.Int {
	common := new(big.Int)
	for _, n := range p {
		common.GCD(nil, nil, common, new(big.Int).Abs(n))
	}
	return common
}

func (p exact) primitive() exact {
	by := p.content()
	if len(p) > 0 && p[len(p)-1].Sign() < 0 {
		by.Neg(by)
	}
	var part exact
	for _, n := range p {
		part = append(part, new(big.Int).Quo(n, by))
	}
	return part
}

// rats is a polynomial with fractions as coefficients.
type rats []*big.Rat

func (p exact) rats() rats {
	var r rats
	for _, n := range p {
		r = append(r, new(big.Rat).SetInt(n))
	}
	return r
}

// primitive is the primitive polynomial that is a multiple of one with
// fractions.
func (r rats) primitive() exact {
	den := big.NewInt(1)
	for _, x := range r {
		den.Mul(den, x.Denom())
	}
	var p exact
	for _, x := range r {
		n := new(big.Int).Mul(x.Num(), den)
		p = append(p, n.Quo(n, x.Denom()))
	}
	return p.primitive()
}

// divide is the quotient and the remainder by another polynomial.
func (r rats) divide(by rats) (quotient, rest rats) {
	rest = slices.Clone(r)
	quotient = make(rats, max(len(r)-len(by)+1, 0))
	for gap := len(quotient) - 1; gap >= 0; gap-- {
		last := len(by) - 1
		quotient[gap] = new(big.Rat).Quo(rest[gap+last], by[last])
		for i, x := range by {
			rest[gap+i] = new(big.Rat).Sub(rest[gap+i], new(big.Rat).Mul(quotient[gap], x))
		}
	}
	for len(rest) > 0 && rest[len(rest)-1].Sign() == 0 {
		rest = rest[:len(rest)-1]
	}
	return quotient, rest
}

// gcd is the greatest common divisor by Euclid's rule for fractions.
func (p exact) gcd(q exact) exact {
	for len(q) > 0 {
		_, rest := p.rats().divide(q.rats())
		p, q = q, rest.primitive()
	}
	return p.primitive()
}

func (p exact) free() exact {
	if len(p) == 0 {
		return nil
	}
	quotient, _ := p.rats().divide(p.gcd(p.deriv()).rats())
	return quotient.primitive()
}

// random is a number with at most so many binary digits.
func random(r *rand.Rand, digits int) *big.Int {
	n := new(big.Int).Rand(r, new(big.Int).Lsh(big.NewInt(1), uint(r.Intn(digits+1))))
	if r.Intn(2) == 0 {
		n.Neg(n)
	}
	return n
}

// some is a polynomial of at most a degree, with numbers of at most so many
// binary digits, a fifth of them 0.
func some(r *rand.Rand, degree, digits int) exact {
	var p exact
	for range r.Intn(degree + 2) {
		n := random(r, digits)
		if r.Intn(5) == 0 {
			n = new(big.Int)
		}
		p = append(p, n)
	}
	return p.cut()
}

// most is 2^1280 - 1, the greatest valid coefficient.
func most() *big.Int {
	n := new(big.Int).Lsh(big.NewInt(1), 32*api.MaxCoef)
	return n.Sub(n, big.NewInt(1))
}

// extremes are valid polynomials at the limits of MaxDegree and MaxCoef.
func extremes() []exact {
	full, single := ints(), ints(0, 0, 0, 0, 0, 0, 0, 0, 1)
	for i := range api.MaxDegree + 1 {
		n := most()
		if i%3 == 1 {
			n.Neg(n)
		}
		full = append(full, n.Sub(n, big.NewInt(int64(i))))
	}
	full[1], full[4], full[7] = most(), new(big.Int).Neg(most()), most()
	return []exact{full, full.mul(ints(-1)), single, {most()}, single.mul(exact{most()})}
}

// samples are valid polynomials: small ones, random ones, and those at the
// limits.
func samples(seed int64, count int) []exact {
	return append(ordinary(seed, count), extremes()...)
}

// ordinary are the samples that are not at the limits.
func ordinary(seed int64, count int) []exact {
	list := []exact{
		ints(), ints(1), ints(-1), ints(6), ints(-4), ints(0, 1), ints(0, -1), ints(1, 1), ints(-1, 1), ints(3, -2),
		ints(-1, 0, 1), ints(1, 2, 1), ints(2, 4, 2), ints(0, 0, -3), ints(6, 0, -4), ints(0, -4, 8, -4), ints(-2, 0, 2),
		ints(1, 0, 0, 0, 0, 0, 0, 0, -1), ints(0, 0, 0, 0, 0, 0, 0, 0, 5), ints(1, 1).pow(8), ints(-3, 2).pow(5),
	}
	r := rand.New(rand.NewSource(seed))
	for range count {
		list = append(list, some(r, 2, 5), some(r, 8, 40), some(r, 8, 1280))
		p := some(r, 2, 9).pow(1 + r.Intn(2)).mul(some(r, 1, 60)).mul(some(r, 1, 3).pow(r.Intn(4)))
		if p.fits() {
			list = append(list, p)
		}
	}
	return list
}

// isWide reports whether a number is the one that it should be, in its valid
// form.
func isWide(w api.Wide, n *big.Int) bool {
	return wide.Check(w) == api.OK && number(w).Cmp(n) == 0
}

// is reports whether a polynomial is the one that it should be.
func is(p []api.Wide, want exact) bool {
	if len(p) != len(want) {
		return false
	}
	for i, w := range p {
		if !isWide(w, want[i]) {
			return false
		}
	}
	return true
}

// same reports whether two results are the same.
func same(p, q []api.Wide) bool { return slices.EqualFunc(p, q, sameWide) }

func sameWide(a, b api.Wide) bool { return a.Neg == b.Neg && slices.Equal(a.Mag, b.Mag) }

// want checks a polynomial against the one that it should be: ErrRange if that
// is not valid.
func want(t *testing.T, what string, got []api.Wide, e api.Errno, p exact) {
	t.Helper()
	if !p.fits() {
		fails(t, what, got, e, api.ErrRange)
		return
	}
	if e != api.OK || !is(got, p) {
		t.Error(what, numbers(got), e, "instead of", p)
	}
}

// fails checks that a result is an error, and else the zero value.
func fails(t *testing.T, what string, got []api.Wide, e, f api.Errno) {
	t.Helper()
	if e != f {
		t.Error(what, "has the error", e, "instead of", f)
	}
	if len(got) > 0 {
		t.Error(what, "has a result with the error", f)
	}
}

// fraction is a number as api.Frac.
func fraction(x *big.Rat) api.Frac {
	return api.Frac{Num: whole(x.Num()), Den: whole(x.Denom())}
}

// ratio is the fraction of small numbers.
func ratio(num, den int64) api.Frac { return fraction(big.NewRat(num, den)) }

// The calls of functions of one polynomial, and of two, with ordinary other
// arguments, as those that return polynomials.
type unary func(p []api.Wide) ([]api.Wide, api.Errno)
type binary func(p, q []api.Wide) ([]api.Wide, api.Errno)

// asList returns numbers that a result has as a list of those that are not 0.
func asList(e api.Errno, l ...api.Wide) ([]api.Wide, api.Errno) {
	return slices.DeleteFunc(l, func(w api.Wide) bool { return sameWide(w, api.Wide{}) }), e
}

func valueAt(x api.Frac) unary {
	return func(p []api.Wide) ([]api.Wide, api.Errno) {
		v, e := poly.Eval(p, x)
		return asList(e, v.Num, v.Den)
	}
}

func signAt(x api.Frac) unary {
	return func(p []api.Wide) ([]api.Wide, api.Errno) {
		n, e := poly.Sign(p, x)
		return asList(e, wide.From(int64(n)))
	}
}

func contentOf(p []api.Wide) ([]api.Wide, api.Errno) {
	w, e := poly.Content(p)
	return asList(e, w)
}

func unaries() map[string]unary {
	return map[string]unary{
		"Deriv":     poly.Deriv,
		"Eval":      valueAt(ratio(-3, 7)),
		"Eval at 0": valueAt(ratio(0, 1)),
		"Eval at 1": valueAt(ratio(1, 1)),
		"Sign":      signAt(ratio(5, 2)),
		"Content":   contentOf,
		"Primitive": poly.Primitive,
		"Free":      poly.Free,
	}
}

func binaries() map[string]binary {
	return map[string]binary{"Add": poly.Add, "Sub": poly.Sub, "Mul": poly.Mul, "Gcd": poly.Gcd}
}
