package roots_test

import (
	"math/big"
	"math/rand"
	"testing"

	"planisphere/api"
	"planisphere/roots"
)

// signAt is the sign of q at the root of a cell, and ErrOpen as it is defined.
func signAt(p exact, c spot, q exact) (int, api.Errno) {
	if len(q) == 0 || c.in(sturmOf(p.gcd(q))) > 0 {
		return 0, api.OK
	}
	rootsOfP, rootsOfQ := sturmOf(p), sturmOf(q)
	for c.in(rootsOfQ) > 0 {
		if c.exp == api.MaxDeep {
			return 0, api.ErrOpen
		}
		c = c.part(rootsOfP, c.exp+1)
	}
	return q.sign(c.high()), api.OK
}

// wantSign checks SignAt.
func wantSign(t *testing.T, p exact, c spot, q exact, want int) {
	t.Helper()
	n, e := roots.SignAt(p.wides(), c.cell(), q.wides())
	if n != want || e != api.OK {
		t.Error("SignAt", p, c, q, n, e, "instead of", want)
	}
}

// others are polynomials whose signs are asked for at the roots of another one.
func (k known) others(r *rand.Rand) []exact {
	list := []exact{nil, ints(1), ints(-7), ints(0, 1), k.p, k.free, k.p.deriv(), some(r, 8, 30), some(r, 3, 500)}
	if len(list[6]) == 0 {
		list[6] = ints(2)
	}
	for _, x := range k.fractions {
		near := new(big.Rat).Add(x, new(big.Rat).SetFrac(big.NewInt(1-2*r.Int63n(2)), power(r.Intn(150))))
		factor := line(x.Num(), x.Denom())
		list = append(list, factor, line(near.Num(), near.Denom()), factor.pow(2).mul(ints(-1)), line(near.Num(), near.Denom()).pow(3))
	}
	return list
}

// P5.4: SignAt for polynomials whose roots are known, with others that have
// the same roots, or some that are close to them.
func TestSignAt(t *testing.T) {
	r := rand.New(rand.NewSource(51))
	for _, k := range knowns(52, 60) {
		for _, c := range isolation(k.free, k) {
			for _, q := range k.others(r) {
				if !q.fits() {
					continue
				}
				want, e := signAt(k.p, c, q)
				if e != api.OK {
					t.Fatal("the test is wrong", k.p, q)
				}
				wantSign(t, k.p, c, q, want)
			}
		}
	}
}

// P5.4: at a fraction, the sign is that of the value.
func TestSignAtFraction(t *testing.T) {
	r := rand.New(rand.NewSource(53))
	for _, k := range knowns(54, 100) {
		for _, x := range k.fractions {
			c := spotAt(x, 400)
			for range 4 {
				q := some(r, 8, 1+r.Intn(600))
				wantSign(t, k.p, c, q, q.sign(x))
			}
		}
	}
}

// P5.4: a root at an end of cells, and roots of q close to it, of all orders.
func TestSignBeside(t *testing.T) {
	c := at(-1, -3)
	for order := 1; order <= api.MaxDegree; order++ {
		p := ints(0, 1).pow(order)
		for _, digits := range []int{1, 20, 158} {
			for _, side := range []int64{-1, 1} {
				// The root is side / 2^digits: q is negative before it.
				q := line(big.NewInt(side), power(digits)).pow(order)
				below := -side
				if order%2 == 0 {
					below = 1
				}
				wantSign(t, p, c, q, int(below))
				wantSign(t, p, c, q.mul(ints(-1)), int(-below))
			}
		}
		wantSign(t, p, c, ints(0, 5), 0)
		wantSign(t, p, c, ints(0, 1, 1), 0)
		wantSign(t, p, c, ints(8, 1).pow(order), 1)
	}
	wantSign(t, ints(0, 1), c, line(big.NewInt(-1), power(1279)), 1)
	wantSign(t, ints(0, 1), c, line(big.NewInt(1), power(1279)), -1)
	wantSign(t, line(big.NewInt(1), power(1279)), at(0, 0), ints(0, 1), 1)
	wantSign(t, line(big.NewInt(-1), power(1279)), at(-1, 0), ints(0, 1), -1)
	wantSign(t, line(big.NewInt(1), power(1279)), at(0, 0), line(big.NewInt(1), plus(power(1279), 1)), 1)
	wantSign(t, line(big.NewInt(1), plus(power(1279), 1)), at(0, 0), line(big.NewInt(1), power(1279)), -1)
}

// P5.4: q has a root of the cell in common with another root of p only.
func TestSharedElsewhere(t *testing.T) {
	p := ints(-1, 1).mul(ints(-2, 1)).mul(ints(-2, 0, 1))
	for _, x := range []struct {
		c    spot
		q    exact
		want int
	}{
		{at(0, 0), ints(-2, 1), -1}, {at(0, 0), ints(-1, 1), 0}, {at(0, 0), ints(-2, 0, 1), -1}, {at(0, 0), ints(4, -4, 1), 1},
		{at(3, 1), ints(-2, 1), 0}, {at(3, 1), ints(-2, 0, 1), 1}, {at(3, 1), ints(-2, 0, 1).mul(ints(-2, 1)), 0},
		{at(2, 1), ints(-2, 0, 1), 0}, {at(2, 1), ints(-2, 1), -1}, {at(2, 1), ints(2, -3, 1), -1}, {at(2, 1), p, 0},
		{at(-1, -1), ints(-2, 0, 1), 0}, {at(-1, -1), ints(0, 1), -1}, {at(-1, -1), ints(1, 1), -1}, {at(-1, -1), ints(0, 2, 1), -1},
	} {
		wantSign(t, p, x.c, x.q, x.want)
		wantSign(t, p.mul(ints(-3)), x.c, x.q.mul(ints(-1)), -x.want)
	}
}

// P5.4: ErrOpen if q has a root in the part with the greatest Exp, but for a
// root that both have.
func TestSignOpen(t *testing.T) {
	apart, not := units()
	for _, exp := range []int{0, 100, api.MaxDeep} {
		c := fourthAt(exp)
		wantSign(t, fourth(), c, apart, apart.sign(fourthAt(6000).high()))
		wantSign(t, fourth(), c, fourth().mul(ints(2, -1)), 0)
		for _, q := range []exact{not, unit(1720, 281), not.mul(ints(1, 1))} {
			n, e := roots.SignAt(fourth().wides(), c.cell(), q.wides())
			if !q.fits() || n != 0 || e != api.ErrOpen {
				t.Error("ErrOpen", n, e)
			}
			wantSign(t, fourth(), c, q.mul(fourth()), 0)
		}
	}
	c := fourthAt(100)
	if n, e := roots.SignAt(not.wides(), c.cell(), fourth().wides()); n != 0 || e != api.ErrOpen {
		t.Error("ErrOpen", n, e)
	}
	// Both roots are in a cell with the Exp before MaxDeep, each one in a half.
	want := 1
	if fourthAt(api.MaxDeep).at.Bit(0) == 1 {
		want = -1
	}
	wantSign(t, apart, c, fourth(), want)
}
