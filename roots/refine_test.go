package roots_test

import (
	"math/big"
	"math/rand"
	"testing"

	"planisphere/api"
	"planisphere/roots"
)

// wantRefined checks Refine of a cell.
func wantRefined(t *testing.T, p exact, c spot, want spot) {
	t.Helper()
	got, e := roots.Refine(p.wides(), c.cell(), want.exp)
	if e != api.OK || !isCell(got, want) {
		t.Error("Refine", p, c, want.exp, spotOf(got), e, "instead of", want)
	}
}

// P5.4: Refine for polynomials whose roots are known.
func TestRefine(t *testing.T) {
	r := rand.New(rand.NewSource(41))
	for _, k := range knowns(42, 70) {
		for _, c := range isolation(k.free, k) {
			for _, by := range []int{0, 1, 2, 3, 7, 40 + r.Intn(60), 200} {
				wantRefined(t, k.p, c, c.part(k, c.exp+by))
			}
			middle := c.part(k, c.exp+r.Intn(200))
			wantRefined(t, k.p, middle, middle.part(k, middle.exp+r.Intn(200)))
		}
	}
}

// P5.4: Refine for polynomials of which nothing is known: the cell has the
// root and is a part.
func TestRefineRandom(t *testing.T) {
	r := rand.New(rand.NewSource(43))
	for _, p := range append(randoms(44, 36), near(45)...) {
		s := sturmOf(p)
		for _, c := range isolated(t, p) {
			exp := c.Exp + r.Intn(api.MaxDeep+1-c.Exp)
			if r.Intn(9) == 0 {
				exp = api.MaxDeep
			}
			got, e := roots.Refine(p.wides(), c, exp)
			x := spotOf(got)
			above := new(big.Int).Rsh(x.at, uint(exp-c.Exp))
			if e != api.OK || x.exp != exp || x.in(s) != 1 || above.Cmp(number(c.At)) != 0 {
				t.Error("Refine", p, spotOf(c), exp, x, e)
			}
		}
	}
}

// P5.4: Refine from the least Exp to the greatest one, of roots that are ends
// of cells, and of others.
func TestRefineFar(t *testing.T) {
	for _, x := range []*big.Rat{
		new(big.Rat), big.NewRat(1, 1), big.NewRat(-1, 1), big.NewRat(-5, 8), big.NewRat(1, 3), big.NewRat(-22, 7),
		new(big.Rat).SetInt(power(1200)), new(big.Rat).SetInt(plus(power(1200), 1)), new(big.Rat).SetFrac(big.NewInt(-1), power(1270)),
		new(big.Rat).SetFrac(big.NewInt(3), plus(power(1270), -1)),
	} {
		for _, order := range []int{1, 2} {
			p := line(x.Num(), x.Denom()).pow(order)
			if !p.fits() {
				continue
			}
			for _, from := range []int{leastExp, -1, 40, 4000, api.MaxDeep} {
				for _, to := range []int{from, from + 1, 41, 4095, api.MaxDeep} {
					if to >= from && to <= api.MaxDeep {
						wantRefined(t, p, spotAt(x, from), spotAt(x, to))
					}
				}
			}
		}
	}
	for _, exp := range []int{0, 1, 10, 1000, api.MaxDeep} {
		wantRefined(t, fourth(), at(0, -2), fourthAt(exp))
	}
}

// wantInterval checks Interval of a cell.
func wantInterval(t *testing.T, p exact, c spot, lo, hi *big.Int) {
	t.Helper()
	x, e := roots.Interval(p.wides(), c.cell())
	greatest := big.NewInt(api.MaxIv)
	if lo.CmpAbs(greatest) > 0 || hi.CmpAbs(greatest) > 0 {
		if x != (api.Iv{}) || e != api.ErrRange {
			t.Error("Interval", p, c, x, e, "instead of ErrRange")
		}
		return
	}
	if e != api.OK || x.Lo != lo.Int64() || x.Hi != hi.Int64() {
		t.Error("Interval", p, c, x, e, "instead of", lo, hi)
	}
}

// around returns the least interval of a number, in units.
func around(x *big.Rat) (lo, hi *big.Int) {
	units := new(big.Int).Mul(x.Num(), big.NewInt(api.One))
	lo, rest := new(big.Int).DivMod(units, x.Denom(), new(big.Int))
	if rest.Sign() == 0 {
		return lo, lo
	}
	return lo, plus(lo, 1)
}

// P5.4: Interval for polynomials whose roots are known, in cells of all lengths.
func TestInterval(t *testing.T) {
	for _, k := range knowns(46, 80) {
		for _, x := range k.fractions {
			lo, hi := around(x)
			for _, exp := range []int{leastExp, -50, 0, 39, 40, 41, 90, 500, api.MaxDeep} {
				if c := spotAt(x, exp); c.in(k) == 1 {
					wantInterval(t, k.p, c, lo, hi)
				}
			}
		}
		for _, c := range isolation(k.free, k) {
			if isFraction := c.part(k, 200).in(known{fractions: k.fractions}) > 0; !isFraction {
				lo := c.part(k, max(c.exp, 40))
				lo.at.Rsh(lo.at, uint(lo.exp-40))
				wantInterval(t, k.p, c, lo.at, plus(lo.at, 1))
			}
		}
	}
}

// P5.4: intervals at the limits of their ends, and beyond them.
func TestIntervalLimits(t *testing.T) {
	limit := new(big.Rat).SetInt(power(21))
	for _, by := range []*big.Rat{
		new(big.Rat), new(big.Rat).SetFrac(big.NewInt(1), power(40)), new(big.Rat).SetFrac(big.NewInt(1), power(41)),
		new(big.Rat).SetFrac(big.NewInt(1), power(900)), new(big.Rat).SetInt(power(800)), big.NewRat(1, 3),
	} {
		for _, x := range []*big.Rat{new(big.Rat).Add(limit, by), new(big.Rat).Sub(limit, by)} {
			for _, y := range []*big.Rat{x, new(big.Rat).Neg(x)} {
				lo, hi := around(y)
				for _, exp := range []int{leastExp, -21, -20, 0, 40, 41, 1000} {
					wantInterval(t, line(y.Num(), y.Denom()), spotAt(y, exp), lo, hi)
				}
			}
		}
	}
	// Irrational roots just within the limit, and just beyond it.
	square := new(big.Int).Lsh(power(42), 200)
	for _, x := range []struct {
		by     int64
		lo, hi *big.Int
	}{{-1, plus(power(61), -1), power(61)}, {1, power(61), plus(power(61), 1)}} {
		p := exact{new(big.Int).Neg(plus(square, x.by)), new(big.Int), power(200)}
		wantInterval(t, p, spot{big.NewInt(0), -22}, x.lo, x.hi)
		wantInterval(t, p, spot{big.NewInt(-1), -22}, new(big.Int).Neg(x.hi), new(big.Int).Neg(x.lo))
	}
}

// P5.4: the example of the chapter.
func TestRootOfTwo(t *testing.T) {
	lo := big.NewInt(1554944255987)
	for _, exp := range []int{leastExp, -2, 0} {
		c := spotAt(big.NewRat(141, 100), exp)
		wantInterval(t, ints(-2, 0, 1), c, lo, plus(lo, 1))
		wantInterval(t, ints(-2, 0, 1).pow(4).mul(ints(-3)), c, lo, plus(lo, 1))
	}
}

// P5.4: another root at the lower end of a cell is none of its roots.
func TestOtherEnd(t *testing.T) {
	for _, x := range [][2]int64{{1, 2}, {0, 1}, {-2, -1}, {-1, 0}} {
		p := line(big.NewInt(x[0]), big.NewInt(1)).mul(line(big.NewInt(x[1]), big.NewInt(1))).mul(line(big.NewInt(x[0]), big.NewInt(1)))
		c := spot{big.NewInt(x[0]), 0}
		end := big.NewInt(x[1] * api.One)
		wantInterval(t, p, c, end, end)
		for _, exp := range []int{0, 1, 5, 100, api.MaxDeep} {
			wantRefined(t, p, c, spotAt(big.NewRat(x[1], 1), exp))
		}
		middle := line(big.NewInt(2*x[0]+1), big.NewInt(2)).mul(line(big.NewInt(x[0]), big.NewInt(1)))
		half := big.NewInt((2*x[0] + 1) * (api.One / 2))
		wantInterval(t, middle, c, half, half)
		wantRefined(t, middle, c, spotAt(big.NewRat(2*x[0]+1, 2), 77))
	}
}
