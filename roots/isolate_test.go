package roots_test

import (
	"math/big"
	"math/rand"
	"slices"
	"testing"

	"planisphere/api"
	"planisphere/roots"
)

// wantCells checks the isolation of a polynomial.
func wantCells(t *testing.T, p exact, want ...spot) {
	t.Helper()
	list := isolated(t, p)
	if len(list) != len(want) {
		t.Error("Isolate", p, "has", len(list), "cells instead of", len(want))
		return
	}
	for i, c := range list {
		if !isCell(c, want[i]) {
			t.Error("Isolate", p, i, spotOf(c), "instead of", want[i])
		}
	}
}

// at is a cell with a small number.
func at(n int64, exp int) spot { return spot{big.NewInt(n), exp} }

// P5.3: the examples of the chapter, and others.
func TestExamples(t *testing.T) {
	wantCells(t, ints(-2, 0, 1), at(-1, -2), at(0, -2))
	wantCells(t, ints(0, -1, 1), at(-1, -1), at(0, -1))
	wantCells(t, ints(6, -7, 0, 1), at(-1, -3), at(0, 0), at(1, 0))
	wantCells(t, ints(1, 0, 1))
	for _, n := range []int64{1, -1, 12} {
		wantCells(t, ints(n))
	}
}

// P5.3: where the isolation begins, which depends on the squarefree part.
func TestBeginning(t *testing.T) {
	wantCells(t, ints(0, 1), at(-1, 0))
	wantCells(t, ints(0, 0, 0, 0, 0, 0, 0, 0, -5), at(-1, 0))
	wantCells(t, ints(-1, 1), at(0, -1))
	wantCells(t, ints(1, 1), at(-1, -1))
	wantCells(t, ints(-3, 1), at(0, -2))
	wantCells(t, ints(-4, 1), at(0, -3))
	wantCells(t, ints(7, -1), at(0, -3))
	wantCells(t, ints(-8, -1), at(-1, -4))
	wantCells(t, ints(-1, 3), at(0, -1))
	wantCells(t, ints(-3, 3), at(0, -1))
	wantCells(t, ints(-1, 1).pow(8), at(0, -1))
	wantCells(t, ints(1, 1).pow(7).mul(ints(-1000)), at(-1, -1))
	wantCells(t, ints(5, -1).pow(2).mul(ints(0, 0, 1)), at(-1, -3), at(0, -3))
	wantCells(t, exact{new(big.Int).Neg(most()), big.NewInt(1)}, at(0, -1280))
	wantCells(t, exact{plus(most(), -1), big.NewInt(-1)}, at(0, -1280))
	wantCells(t, exact{most(), big.NewInt(0), most()})
	wantCells(t, exact{big.NewInt(-1), most()}, at(0, -1))
	wantCells(t, exact{new(big.Int).Neg(most()), big.NewInt(0), big.NewInt(1)}, at(-1, -1280), at(0, -1280))
}

// P5.3: polynomials whose roots are known.
func TestIsolate(t *testing.T) {
	for _, k := range knowns(31, 250) {
		wantCells(t, k.p, isolation(k.free, k)...)
	}
}

// wantProper checks that a list of cells is the isolation: each one has one
// root and is one of the two with which it begins, or a half of a cell with
// more roots; and there are as many as roots.
func wantProper(t *testing.T, p exact) {
	t.Helper()
	s := sturmOf(p)
	b := bound(s[0])
	list := isolated(t, p)
	if all := s.between(place(big.NewInt(-1), -b), place(big.NewInt(1), -b)); len(list) != all {
		t.Error("Isolate", p, "has", len(list), "cells instead of", all)
	}
	for i, c := range list {
		c := spotOf(c)
		if c.exp < -b || c.in(s) != 1 || c.exp > -b && c.whole().in(s) < 2 {
			t.Error("Isolate", p, c, "is no cell of the isolation")
		}
		if i > 0 && spotOf(list[i-1]).high().Cmp(c.low()) > 0 {
			t.Error("Isolate", p, c, "is not in order")
		}
	}
}

// P5.3: polynomials of which nothing is known.
func TestIsolateRandom(t *testing.T) {
	for _, p := range randoms(32, 150) {
		wantProper(t, p)
	}
	for _, p := range randoms(33, 60) {
		if s := sturmOf(p); bound(s[0]) < 50 {
			wantCells(t, p, isolation(s[0], s)...)
		}
	}
}

// near are polynomials with roots that are much closer to each other than to
// others, or much further away, with coefficients that are as long as they can
// be.
func near(seed int64) []exact {
	r := rand.New(rand.NewSource(seed))
	some := func(digits int) *big.Int { return new(big.Int).SetBit(random(r, digits-1), digits-1, 1) }
	var list []exact
	for _, x := range [][2]int{{2, 636}, {3, 426}, {4, 319}, {6, 213}} {
		// A power of a line, beside which the other term is small at its root.
		for _, sign := range []int64{1, -1} {
			p := line(big.NewInt(1), some(x[1])).pow(x[0])
			for len(p) <= api.MaxDegree {
				p = append(p, new(big.Int))
			}
			p[api.MaxDegree] = big.NewInt(sign)
			list = append(list, p)
		}
	}
	for range 4 {
		a, b := some(200), some(300)
		cluster := line(a, b).mul(line(plus(a, 1), b)).mul(line(plus(a, 2), b))
		list = append(list, cluster.mul(line(plus(new(big.Int).Lsh(a, 100), 1), new(big.Int).Lsh(b, 8))))
	}
	far := exact{big.NewInt(3), new(big.Int).Neg(power(1279)), new(big.Int), new(big.Int), new(big.Int), new(big.Int), new(big.Int), new(big.Int), big.NewInt(1)}
	return append(list, far, exact{big.NewInt(2), new(big.Int), new(big.Int).Neg(power(1200)), new(big.Int), big.NewInt(1)})
}

// P5.3: roots that are close to each other.
func TestNear(t *testing.T) {
	for _, p := range near(34) {
		if !p.fits() {
			t.Fatal("the test is wrong", p)
		}
		wantProper(t, p)
	}
}

// P5.3: a squarefree part that is no valid polynomial itself.
func TestLongFree(t *testing.T) {
	part := ints(-2, -3, -2, 0, 2, 3, 2)
	third := new(big.Int).Div(most(), big.NewInt(3))
	for _, last := range []*big.Int{plus(third, -1), third, plus(power(32*api.MaxCoef-1), -2)} {
		factor := exact{big.NewInt(1), last}
		p, free := factor.mul(part).mul(ints(1, -1)), factor.mul(part)
		if !p.fits() || free.fits() != (last.Cmp(third) < 0) || bound(sturmOf(p)[0]) != bound(free) {
			t.Fatal("the test is wrong", last)
		}
		wantProper(t, p)
		c := isolated(t, p)[1]
		x, e := roots.Interval(p.wides(), c)
		if n, f := roots.SignAt(p.wides(), c, ints(0, 1).wides()); x != (api.Iv{Lo: -1}) || e != api.OK || n != -1 || f != api.OK {
			t.Error("the root near to 0", x, e, n, f)
		}
	}
}

// fourth is x^4 - 2, and the root of it that is greater than 0 is r.
func fourth() exact { return ints(-2, 0, 0, 0, 1) }

// unit is the polynomial of the third degree whose value at r is
// (r-1)^a (r+1)^b: it has a root very close to r.
func unit(a, b int) exact {
	h := ints(1, 0, 0, 0)
	for i := range a + b {
		by := int64(-1)
		if i >= a {
			by = 1
		}
		next := h.times(big.NewInt(by))
		for k, n := range h[:3] {
			next[k+1].Add(next[k+1], n)
		}
		next[0].Add(next[0], new(big.Int).Lsh(h[3], 1))
		h = next
	}
	return h
}

// fourthAt is the cell with an Exp that has r.
func fourthAt(exp int) spot {
	n := new(big.Int).Lsh(big.NewInt(2), uint(4*exp))
	return spot{n.Sqrt(n.Sqrt(n)), exp}
}

// together is the greatest Exp of a cell that has r and the root of another
// polynomial that is close to it.
func together(h exact, from int) int {
	for {
		next := fourthAt(from + 1)
		if h.sign(next.low()) == h.sign(next.high()) {
			return from
		}
		from++
	}
}

// The exponents of units whose root is just not in the cell of r with the Exp
// MaxDeep, and of units whose root just is.
func units() (apart, not exact) { return unit(1384, 224), unit(1386, 229) }

// P5.3: the greatest Exp, and ErrOpen beyond it.
func TestOpen(t *testing.T) {
	apart, not := units()
	if together(apart, 4000) != api.MaxDeep-1 || together(not, 4000) != api.MaxDeep {
		t.Fatal("the test is wrong")
	}
	p := fourth().mul(apart)
	wantProper(t, p)
	isDeepest := func(c api.Cell) bool { return isCell(c, fourthAt(api.MaxDeep)) }
	if list := isolated(t, p); !slices.ContainsFunc(list, isDeepest) {
		t.Error("there is no cell with the greatest Exp", list)
	}
	for _, q := range []exact{fourth().mul(not), fourth().mul(unit(1720, 281)), fourth().mul(not).mul(ints(-1, 1))} {
		list, e := roots.Isolate(q.wides())
		if !q.fits() || len(list) > 0 || e != api.ErrOpen {
			t.Error("ErrOpen", len(list), e)
		}
	}
}
