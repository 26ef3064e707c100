package roots_test

import (
	"math/big"
	"math/rand"
	"testing"

	"planisphere/api"
	"planisphere/roots"
)

// wantCount checks Count of a polynomial.
func wantCount(t *testing.T, p exact, low, high *big.Rat, want int) {
	t.Helper()
	n, e := roots.Count(p.wides(), fraction(low), fraction(high))
	if n != want || e != api.OK {
		t.Error("Count", p, low, high, n, e, "instead of", want)
	}
}

// wantHas checks Has of a polynomial.
func wantHas(t *testing.T, p exact, c spot, want int) {
	t.Helper()
	n, e := roots.Has(p.wides(), c.cell())
	if n != want || e != api.OK {
		t.Error("Has", p, c, n, e, "instead of", want)
	}
}

// spots are numbers between which roots of a polynomial are counted: small
// ones, and its roots and numbers close to them.
func (k known) spots(r *rand.Rand) []*big.Rat {
	list := []*big.Rat{new(big.Rat), big.NewRat(-7, 2), big.NewRat(1, 1), new(big.Rat).SetInt(power(70)), new(big.Rat).SetInt(new(big.Int).Neg(power(99)))}
	for _, x := range k.fractions {
		near := new(big.Rat).SetFrac(big.NewInt(1), power(1+r.Intn(100)))
		list = append(list, x, new(big.Rat).Add(x, near), new(big.Rat).Sub(x, near))
	}
	for _, s := range k.surds {
		near := int64(s.part(r.Intn(60)))
		list = append(list, big.NewRat(near, 1<<20), big.NewRat(near+1, 1<<20))
	}
	return list
}

// part is the number of units of 2^-20 before the root, found from a side.
func (r surd) part(from int) int {
	low, high := -1<<(20+from%20), 1<<(20+from%20)
	for high-low > 1 {
		if middle := (low + high) / 2; r.compare(big.NewRat(int64(middle), 1<<20)) > 0 {
			low = middle
		} else {
			high = middle
		}
	}
	return low
}

// P5.2: Count for polynomials whose roots are known.
func TestCount(t *testing.T) {
	r := rand.New(rand.NewSource(21))
	for _, k := range knowns(22, 150) {
		list := k.spots(r)
		for _, low := range list {
			for _, high := range list {
				want := 0
				if low.Cmp(high) < 0 {
					want = k.between(low, high)
				}
				wantCount(t, k.p, low, high, want)
			}
		}
	}
}

// P5.2: Has for polynomials whose roots are known, in cells of all lengths.
func TestHas(t *testing.T) {
	r := rand.New(rand.NewSource(23))
	for _, k := range knowns(24, 60) {
		for _, x := range k.spots(r) {
			for _, exp := range []int{leastExp, -70, -3, 0, 1, 5, 40, 90, 300} {
				c := spotAt(x, exp)
				for by := int64(-1); by <= 1; by++ {
					near := spot{plus(c.at, by), exp}
					wantHas(t, k.p, near, near.in(k))
				}
			}
		}
	}
}

// P5.2: a number that is greater than a and at most b is counted, whatever its
// order as a root is.
func TestEnds(t *testing.T) {
	for order := 1; order <= api.MaxDegree; order++ {
		p := line(big.NewInt(3), big.NewInt(4)).pow(order)
		x, before, after := big.NewRat(3, 4), big.NewRat(2, 3), big.NewRat(1, 1)
		wantCount(t, p, before, x, 1)
		wantCount(t, p, before, after, 1)
		wantCount(t, p, x, after, 0)
		wantCount(t, p, x, x, 0)
		wantCount(t, p, after, before, 0)
		wantCount(t, p, after, x, 0)
		wantHas(t, p, spot{big.NewInt(2), 2}, 1)
		wantHas(t, p, spot{big.NewInt(3), 2}, 0)
		wantHas(t, p, spot{big.NewInt(0), 0}, 1)
		wantHas(t, p, spot{big.NewInt(-1), 0}, 0)
	}
}

// P5.2: 0 if b is at most a, also for numbers that are equal.
func TestNothingBetween(t *testing.T) {
	for _, k := range knowns(25, 30) {
		for _, x := range []*big.Rat{new(big.Rat), big.NewRat(1, 1), new(big.Rat).SetInt(plus(power(2048), -1))} {
			wantCount(t, k.p, x, x, 0)
			wantCount(t, k.p, x, new(big.Rat).Sub(x, big.NewRat(99, 1)), 0)
		}
	}
}

// P5.2: Count at the limit of MaxPoint, beside roots of numbers of any length.
func TestLongPoints(t *testing.T) {
	r := rand.New(rand.NewSource(26))
	long := plus(power(32*api.MaxPoint), -1)
	end := new(big.Rat).SetInt(long)
	for range 20 {
		x := new(big.Rat).SetFrac(random(r, 1200), plus(power(1200), r.Int63()))
		k := constant(7).root(x, 1+r.Intn(2)*r.Intn(2))
		if !k.p.fits() {
			continue
		}
		low := spotAt(x, 2000).low()
		high := spotAt(x, 2000).high()
		wantCount(t, k.p, low, high, 1)
		wantCount(t, k.p, high, end, 0)
		wantCount(t, k.p, low, end, 1)
		wantCount(t, k.p, new(big.Rat).Neg(end), low, 0)
		wantCount(t, k.p, new(big.Rat).Neg(end), x, 1)
	}
	for _, p := range randoms(27, 20) {
		s := sturmOf(p)
		tiny := new(big.Rat).SetFrac(plus(long, -1), long)
		for _, x := range []*big.Rat{new(big.Rat), tiny, new(big.Rat).Inv(tiny), new(big.Rat).Inv(end)} {
			wantCount(t, p, x, end, s.between(x, end))
			wantCount(t, p, new(big.Rat).Neg(x), x, s.between(new(big.Rat).Neg(x), x))
			wantCount(t, p, new(big.Rat).Neg(end), x, s.between(new(big.Rat).Neg(end), x))
		}
	}
}

// P5.2: Count and Has for polynomials of which nothing is known.
func TestRandom(t *testing.T) {
	r := rand.New(rand.NewSource(28))
	for _, p := range randoms(29, 60) {
		s := sturmOf(p)
		for range 6 {
			c := spot{random(r, 6), r.Intn(12) - 6}
			wantHas(t, p, c, c.in(s))
			wantCount(t, p, c.low(), c.high(), c.in(s))
			low := new(big.Rat).SetFrac(random(r, 40), plus(new(big.Int).Abs(random(r, 40)), 1))
			high := new(big.Rat).Add(low, new(big.Rat).SetFrac(power(r.Intn(30)), power(r.Intn(30))))
			wantCount(t, p, low, high, s.between(low, high))
		}
	}
}

// P5.2: cells at the limits.
func TestLongCells(t *testing.T) {
	for _, k := range append(knowns(30, 20), known{p: exact{most(), most(), most(), new(big.Int).Neg(most()), most(), most(), most(), most(), most()}}) {
		s := sturmOf(k.p)
		for _, c := range longCells() {
			wantHas(t, k.p, spotOf(c), spotOf(c).in(s))
		}
		for _, c := range []spot{{big.NewInt(0), leastExp}, {big.NewInt(-1), leastExp}} {
			wantHas(t, k.p, c, c.in(s))
		}
	}
}
