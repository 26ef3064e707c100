package roots_test

import (
	"math/big"
	"math/rand"
	"slices"
	"testing"

	"planisphere/api"
	"planisphere/roots"
	"planisphere/wide"
)

// exact is a polynomial as the tests reckon with it: of any degree, with
// coefficients of any size, of which the last one is not 0.
type exact []*big.Int

// ints is a polynomial with small coefficients.
func ints(l ...int64) exact {
	var p exact
	for _, n := range l {
		p = append(p, big.NewInt(n))
	}
	return p
}

// of is the same as api.Wide.
func of(l ...int64) []api.Wide { return ints(l...).wides() }

// power is 2^k.
func power(k int) *big.Int { return new(big.Int).Lsh(big.NewInt(1), uint(k)) }

// plus is a number that is greater by a small one.
func plus(n *big.Int, by int64) *big.Int { return new(big.Int).Add(n, big.NewInt(by)) }

// line is the polynomial with the root num / den.
func line(num, den *big.Int) exact { return exact{new(big.Int).Neg(num), den} }

// whole is a number of any size as api.Wide.
func whole(n *big.Int) api.Wide {
	w := api.Wide{Neg: n.Sign() < 0}
	for rest := new(big.Int).Abs(n); rest.Sign() > 0; rest.Rsh(rest, 32) {
		w.Mag = append(w.Mag, uint32(rest.Uint64()))
	}
	return w
}

// number is what an api.Wide stands for.
func number(w api.Wide) *big.Int {
	n := new(big.Int)
	for _, limb := range slices.Backward(w.Mag) {
		n.Or(n.Lsh(n, 32), big.NewInt(int64(limb)))
	}
	if w.Neg {
		n.Neg(n)
	}
	return n
}

// fraction is a number as api.Frac.
func fraction(x *big.Rat) api.Frac { return api.Frac{Num: whole(x.Num()), Den: whole(x.Denom())} }

// wides is a polynomial as a list of api.Wide.
func (p exact) wides() []api.Wide {
	var l []api.Wide
	for _, n := range p {
		l = append(l, whole(n))
	}
	return l
}

// fits reports whether a polynomial is valid.
func (p exact) fits() bool {
	for _, n := range p {
		if n.BitLen() > 32*api.MaxCoef {
			return false
		}
	}
	return len(p) <= api.MaxDegree+1
}

func (p exact) mul(q exact) exact {
	product := make(exact, len(p)+len(q)-1)
	for i := range product {
		product[i] = new(big.Int)
	}
	for i, a := range p {
		for j, b := range q {
			product[i+j].Add(product[i+j], new(big.Int).Mul(a, b))
		}
	}
	return product
}

func (p exact) pow(k int) exact {
	power := ints(1)
	for range k {
		power = power.mul(p)
	}
	return power
}

func (p exact) deriv() exact {
	var d exact
	for i, n := range p[1:] {
		d = append(d, new(big.Int).Mul(n, big.NewInt(int64(i+1))))
	}
	return d
}

// sign is the sign of the value at a number.
func (p exact) sign(x *big.Rat) int {
	sum, den := new(big.Int), big.NewInt(1)
	for _, n := range slices.Backward(p) {
		sum.Mul(sum, x.Num())
		sum.Add(sum, new(big.Int).Mul(n, den))
		den = new(big.Int).Mul(den, x.Denom())
	}
	return sum.Sign()
}

// divide is the quotient and the remainder by another polynomial, both times a
// number greater than 0 and without the divisors that their coefficients share.
func (p exact) divide(by exact) (quotient, rest exact) {
	last, square := by[len(by)-1], new(big.Int).Mul(by[len(by)-1], by[len(by)-1])
	rest = p
	quotient = make(exact, max(len(p)-len(by)+1, 0))
	for gap := len(quotient) - 1; gap >= 0; gap-- {
		// All that there is so far is multiplied by the square of the last
		// coefficient, so that the next one of the quotient is whole.
		rest, quotient = rest.times(square), quotient.times(square)
		q := new(big.Int).Div(rest[gap+len(by)-1], last)
		quotient[gap] = q
		for i, n := range by {
			rest[gap+i].Sub(rest[gap+i], new(big.Int).Mul(q, n))
		}
	}
	return quotient.cut(), rest.cut()
}

// times is a list of products, 0 where there is no number yet.
func (p exact) times(by *big.Int) exact {
	list := make(exact, len(p))
	for i, n := range p {
		list[i] = new(big.Int)
		if n != nil {
			list[i].Mul(n, by)
		}
	}
	return list
}

// cut is a polynomial without the zeros at its end, and without the divisor
// that its coefficients share.
func (p exact) cut() exact {
	for len(p) > 0 && p[len(p)-1].Sign() == 0 {
		p = p[:len(p)-1]
	}
	common := new(big.Int)
	for _, n := range p {
		common.GCD(nil, nil, common, new(big.Int).Abs(n))
	}
	var short exact
	for _, n := range p {
		short = append(short, new(big.Int).Quo(n, common))
	}
	return short
}

// gcd is the greatest common divisor, but for its sign.
func (p exact) gcd(q exact) exact {
	for len(q) > 0 {
		_, rest := p.divide(q)
		p, q = q, rest
	}
	return p.cut()
}

// free is the squarefree part, but for its sign.
func (p exact) free() exact {
	quotient, _ := p.divide(p.gcd(p.deriv()))
	return quotient
}

// counter counts roots that are greater than low and at most high.
type counter interface {
	between(low, high *big.Rat) int
}

// sturm is a counter of any polynomial but 0.
type sturm []exact

func sturmOf(p exact) sturm {
	s := sturm{p.free()}
	for q := s[0].deriv().cut(); len(q) > 0; {
		s = append(s, q)
		_, rest := s[len(s)-2].divide(q)
		q = rest.times(big.NewInt(-1))
	}
	return s
}

func (s sturm) changes(x *big.Rat) int {
	count, last := 0, 0
	for _, p := range s {
		sign := p.sign(x)
		if sign*last < 0 {
			count++
		}
		if sign != 0 {
			last = sign
		}
	}
	return count
}

func (s sturm) between(low, high *big.Rat) int { return s.changes(low) - s.changes(high) }

// surd is a root of a x^2 + b x + c, where a is greater than 0 and both roots
// are irrational: the greater one, or the lesser one.
type surd struct {
	a, b, c *big.Int
	greater bool
}

// compare is the sign of the root less a number.
func (r surd) compare(x *big.Rat) int {
	// The root is (-b +- root of d) / 2a, which is compared with (t - b) / 2a.
	t := new(big.Rat).SetInt(r.b)
	t.Add(t, new(big.Rat).Mul(x, new(big.Rat).SetInt(new(big.Int).Lsh(r.a, 1))))
	d := new(big.Int).Mul(r.b, r.b)
	d.Sub(d, new(big.Int).Mul(big.NewInt(4), new(big.Int).Mul(r.a, r.c)))
	beyond := new(big.Rat).SetInt(d).Cmp(new(big.Rat).Mul(t, t))
	switch {
	case r.greater && t.Sign() < 0:
		return 1
	case r.greater:
		return beyond
	case t.Sign() >= 0:
		return -1
	}
	return -beyond
}

// known is a polynomial whose squarefree part and roots are known.
type known struct {
	p, free   exact
	fractions []*big.Rat
	surds     []surd
}

func (k known) between(low, high *big.Rat) int {
	count := 0
	for _, x := range k.fractions {
		if x.Cmp(low) > 0 && x.Cmp(high) <= 0 {
			count++
		}
	}
	for _, r := range k.surds {
		if r.compare(low) > 0 && r.compare(high) <= 0 {
			count++
		}
	}
	return count
}

func (k known) count() int { return len(k.fractions) + len(k.surds) }

// constant is a polynomial without roots.
func constant(n int64) known { return known{p: ints(n), free: ints(1)} }

// linear is the power of a polynomial with the root num / den.
func linear(num, den int64, order int) known {
	x := big.NewRat(num, den)
	return constant(1).root(x, order)
}

// root is a polynomial with one more root, which it does not have yet.
func (k known) root(x *big.Rat, order int) known {
	factor := line(x.Num(), x.Denom())
	k.p, k.free = k.p.mul(factor.pow(order)), k.free.mul(factor)
	k.fractions = append(slices.Clone(k.fractions), x)
	return k
}

// quadratic is a polynomial that is multiplied by a power of another one, of
// the second degree with no roots or irrational ones, which it does not have.
func (k known) quadratic(a, b, c *big.Int, order int) known {
	factor := exact{c, b, a}
	k.p, k.free = k.p.mul(factor.pow(order)), k.free.mul(factor)
	d := new(big.Int).Mul(b, b)
	if d.Sub(d, new(big.Int).Mul(big.NewInt(4), new(big.Int).Mul(a, c))).Sign() > 0 {
		k.surds = append(slices.Clone(k.surds), surd{a, b, c, false}, surd{a, b, c, true})
	}
	return k
}

// times is a polynomial that is multiplied by a whole number.
func (k known) times(n *big.Int) known {
	k.p = k.p.mul(exact{n})
	return k
}

// spot is a cell as the tests reckon with it.
type spot struct {
	at  *big.Int
	exp int
}

// cell is the same as api.Cell.
func (c spot) cell() api.Cell { return api.Cell{At: whole(c.at), Exp: c.exp} }

// spotOf is the spot of a cell.
func spotOf(c api.Cell) spot { return spot{number(c.At), c.Exp} }

// spotAt is the cell with an Exp that has a number.
func spotAt(x *big.Rat, exp int) spot {
	up := new(big.Rat).Mul(x, new(big.Rat).SetFrac(power(max(exp, 0)), power(max(-exp, 0))))
	// The number before the least whole one that is not less.
	at := new(big.Int).Div(new(big.Int).Neg(up.Num()), up.Denom())
	return spot{at.Sub(at.Neg(at), big.NewInt(1)), exp}
}

// place is the number that is at times 2^-exp.
func place(at *big.Int, exp int) *big.Rat {
	return new(big.Rat).SetFrac(new(big.Int).Mul(at, power(max(-exp, 0))), power(max(exp, 0)))
}

func (c spot) low() *big.Rat  { return place(c.at, c.exp) }
func (c spot) high() *big.Rat { return place(plus(c.at, 1), c.exp) }

func (c spot) halves() [2]spot {
	at := new(big.Int).Lsh(c.at, 1)
	return [2]spot{{at, c.exp + 1}, {plus(at, 1), c.exp + 1}}
}

// whole is the cell of which this one is a half.
func (c spot) whole() spot { return spot{new(big.Int).Rsh(c.at, 1), c.exp - 1} }

// in is the number of roots in a cell.
func (c spot) in(roots counter) int { return roots.between(c.low(), c.high()) }

// part is the part of a cell with an Exp that has the root of the cell.
func (c spot) part(roots counter, exp int) spot {
	for c.exp < exp {
		l := c.halves()
		if c = l[0]; c.in(roots) == 0 {
			c = l[1]
		}
	}
	return c
}

// bound is the B of a squarefree polynomial.
func bound(free exact) int {
	last, greatest := new(big.Int).Abs(free[len(free)-1]), new(big.Int)
	for _, n := range free[:len(free)-1] {
		if size := new(big.Int).Abs(n); size.Cmp(greatest) > 0 {
			greatest = size
		}
	}
	b := 0
	for sum := new(big.Int).Add(last, greatest); new(big.Int).Lsh(last, uint(b)).Cmp(sum) < 0; {
		b++
	}
	return b
}

// isolation is the isolation by halves, as it is defined.
func isolation(free exact, roots counter) []spot {
	b := bound(free)
	waiting := []spot{{big.NewInt(0), -b}, {big.NewInt(-1), -b}}
	var list []spot
	for len(waiting) > 0 {
		c := waiting[len(waiting)-1]
		waiting = waiting[:len(waiting)-1]
		switch n := c.in(roots); {
		case n == 1:
			list = append(list, c)
		case n > 1:
			l := c.halves()
			waiting = append(waiting, l[1], l[0])
		}
	}
	return list
}

// random is a number with at most so many binary digits.
func random(r *rand.Rand, digits int) *big.Int {
	n := new(big.Int).Rand(r, power(r.Intn(digits+1)))
	if r.Intn(2) == 0 {
		n.Neg(n)
	}
	return n
}

// some is a polynomial other than 0 of at most a degree, with numbers of at
// most so many binary digits, a fifth of them 0.
func some(r *rand.Rand, degree, digits int) exact {
	p := make(exact, 1+r.Intn(degree+1))
	for i := range p {
		p[i] = random(r, digits)
		if r.Intn(5) == 0 {
			p[i] = new(big.Int)
		}
	}
	if last := len(p) - 1; p[last].Sign() == 0 {
		p[last] = big.NewInt(int64(1 - 2*r.Intn(2)))
	}
	return p
}

// most is 2^1280 - 1, the greatest valid coefficient.
func most() *big.Int { return plus(power(32*api.MaxCoef), -1) }

// knowns are polynomials whose roots are known: with several, with roots of
// higher order, with roots that are ends of cells, and close to each other.
func knowns(seed int64, count int) []known {
	list := []known{
		constant(1), constant(-1), constant(12), constant(1).times(most()),
		linear(0, 1, 1), linear(0, 1, 8), linear(1, 1, 1), linear(-1, 1, 3), linear(3, 2, 1).times(big.NewInt(-6)),
		linear(0, 1, 1).root(big.NewRat(1, 1), 1), linear(0, 1, 2).root(big.NewRat(-1, 1), 5),
		linear(1, 2, 1).root(big.NewRat(1, 4), 2).root(big.NewRat(3, 8), 1),
		linear(-4, 1, 1).root(big.NewRat(4, 1), 1), linear(7, 1, 1).root(big.NewRat(8, 1), 1).root(big.NewRat(9, 1), 2),
		constant(3).quadratic(big.NewInt(1), big.NewInt(0), big.NewInt(-2), 1),
		constant(-1).quadratic(big.NewInt(1), big.NewInt(0), big.NewInt(1), 1),
		constant(-1).quadratic(big.NewInt(1), big.NewInt(-1), big.NewInt(-1), 4),
		linear(0, 1, 1).quadratic(big.NewInt(2), big.NewInt(0), big.NewInt(-1), 2),
	}
	r := rand.New(rand.NewSource(seed))
	for len(list) < count {
		if k := mixed(r); k.p.fits() {
			list = append(list, k)
		}
	}
	return list
}

// mixed is a polynomial with random factors, of any degree.
func mixed(r *rand.Rand) known {
	k := constant(1 + r.Int63n(50)).times(big.NewInt(int64(1 - 2*r.Intn(2))))
	near, digits := new(big.Rat), 1+r.Intn(60)
	for range 1 + r.Intn(4) {
		x := new(big.Rat).SetFrac(random(r, digits), plus(new(big.Int).Abs(random(r, digits)), 1))
		switch r.Intn(5) {
		case 0: // an end of cells
			x = new(big.Rat).SetFrac(random(r, 5), power(r.Intn(9)))
		case 1: // near to another one
			x.Add(near, new(big.Rat).SetFrac(big.NewInt(1), power(r.Intn(70))))
		case 2:
			k = k.someQuadratic(r, digits)
			continue
		}
		if !slices.ContainsFunc(k.fractions, func(y *big.Rat) bool { return x.Cmp(y) == 0 }) {
			k = k.root(x, 1+r.Intn(3)*r.Intn(2))
		}
		near = x
	}
	return k
}

// someQuadratic multiplies a polynomial by a random one of the second degree.
func (k known) someQuadratic(r *rand.Rand, digits int) known {
	a, b, c := plus(new(big.Int).Abs(random(r, digits)), 1), random(r, digits), random(r, digits)
	d := new(big.Int).Mul(b, b)
	d.Sub(d, new(big.Int).Mul(big.NewInt(4), new(big.Int).Mul(a, c)))
	isSquare := d.Sign() >= 0 && new(big.Int).Exp(new(big.Int).Sqrt(d), big.NewInt(2), nil).Cmp(d) == 0
	if isSquare || len(k.p.gcd(exact{c, b, a})) > 1 {
		return k
	}
	return k.quadratic(a, b, c, 1+r.Intn(2))
}

// randoms are polynomials of which nothing is known.
func randoms(seed int64, count int) []exact {
	list := []exact{
		ints(1, 0, 0, 0, 0, 0, 0, 0, -1), ints(-7, 0, 0, 1), ints(1, 1, 1, 1, 1, 1, 1, 1, 1), ints(-1, 3, 0, -2, 0, 1),
		ints(40320, -109584, 118124, -67284, 22449, -4536, 546, -36, 1), ints(1, 0, -32, 0, 160, 0, -256, 0, 128),
	}
	r := rand.New(rand.NewSource(seed))
	for len(list) < count {
		list = append(list, some(r, 8, 4), some(r, 8, 40), some(r, 8, 1280))
		p := some(r, 2, 9).pow(1 + r.Intn(2)).mul(some(r, 3, 60)).mul(some(r, 1, 3).pow(r.Intn(2)))
		if p.fits() {
			list = append(list, p)
		}
	}
	return list
}

// isCell reports whether a cell is the one that it should be, in its valid form.
func isCell(c api.Cell, want spot) bool {
	return wide.Check(c.At) == api.OK && number(c.At).Cmp(want.at) == 0 && c.Exp == want.exp
}

// sameCell reports whether two cells are the same.
func sameCell(a, b api.Cell) bool {
	return a.Exp == b.Exp && a.At.Neg == b.At.Neg && slices.Equal(a.At.Mag, b.At.Mag)
}

// isolated returns the isolation, or fails.
func isolated(t *testing.T, p exact) []api.Cell {
	t.Helper()
	list, e := roots.Isolate(p.wides())
	if e != api.OK {
		t.Fatal("Isolate", p, e)
	}
	return list
}
