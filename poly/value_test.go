package poly_test

import (
	"math/big"
	"math/rand"
	"testing"

	"planisphere/api"
	"planisphere/frac"
	"planisphere/poly"
)

// spots are numbers at which polynomials are looked at: small ones, random
// ones, and the longest ones.
func spots(seed int64, count int) []*big.Rat {
	var list []*big.Rat
	for num := int64(-4); num <= 4; num++ {
		for den := int64(1); den <= 3; den++ {
			list = append(list, big.NewRat(num, den))
		}
	}
	r := rand.New(rand.NewSource(seed))
	for range count {
		digits := 1 + r.Intn(2000)
		den := new(big.Int).Abs(random(r, digits))
		list = append(list, new(big.Rat).SetFrac(random(r, digits), more(den)))
	}
	long := less(new(big.Int).Lsh(big.NewInt(1), 32*api.MaxPoint))
	return append(list,
		new(big.Rat).SetInt(long),
		new(big.Rat).SetFrac(big.NewInt(-1), long),
		new(big.Rat).SetFrac(minus(long), less(long)),
	)
}

// P4.3: Eval and Sign.
func TestEval(t *testing.T) {
	points := spots(41, 10)
	for _, p := range samples(42, 8) {
		l := p.wides()
		for _, x := range points {
			v, e := poly.Eval(l, fraction(x))
			y := p.eval(x)
			if e != api.OK || frac.Check(v) != api.OK || !isWide(v.Num, y.Num()) || !isWide(v.Den, y.Denom()) {
				t.Error("Eval", p, x, v, e, "instead of", y)
			}
			n, e := poly.Sign(l, fraction(x))
			if e != api.OK || n != y.Sign() {
				t.Error("Sign", p, x, n, e, "instead of", y.Sign())
			}
		}
	}
}

// P4.3: values at roots, and close beside them.
func TestRoots(t *testing.T) {
	r := rand.New(rand.NewSource(43))
	for range 200 {
		num, den := random(r, 600), more(new(big.Int).Abs(random(r, 600)))
		x := new(big.Rat).SetFrac(num, den)
		p := exact{minus(x.Num()), x.Denom()}.mul(ints(1, 0, 1))
		near := new(big.Rat).SetFrac(big.NewInt(1), new(big.Int).Lsh(big.NewInt(1), 1400))
		for sign := -1; sign <= 1; sign++ {
			at := new(big.Rat).Mul(near, big.NewRat(int64(sign), 1))
			at.Add(at, x)
			if n, e := poly.Sign(p.wides(), fraction(at)); n != sign || e != api.OK {
				t.Error("Sign", p, at, n, e)
			}
			v, e := poly.Eval(p.wides(), fraction(at))
			if y := p.eval(at); e != api.OK || !isWide(v.Num, y.Num()) || !isWide(v.Den, y.Denom()) {
				t.Error("Eval", p, at, v, e)
			}
		}
	}
}

// P4.3: constants, and the example of the chapter.
func TestConstants(t *testing.T) {
	for _, x := range spots(44, 10) {
		for _, c := range []int64{0, 1, -5} {
			v, e := poly.Eval(of(c), fraction(x))
			if e != api.OK || !isWide(v.Num, big.NewInt(c)) || !isWide(v.Den, big.NewInt(1)) {
				t.Error("Eval of", c, x, v, e)
			}
			n, e := poly.Sign(of(c), fraction(x))
			if e != api.OK || n != big.NewInt(c).Sign() {
				t.Error("Sign of", c, x, n, e)
			}
		}
	}
	v, e := poly.Eval(of(0, -1, 1), ratio(1, 2))
	if text, _ := frac.Text(v); text != "-1/4" || e != api.OK {
		t.Error("x^2 - x at 1/2", text, e)
	}
}
