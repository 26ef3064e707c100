package linear_test

import (
	"math/big"
	"math/rand"
	"slices"
	"testing"

	"planisphere/api"
	"planisphere/linear"
)

// examples are square matrices: small ones, and those of known kinds.
func examples() []exact {
	return []exact{
		ints(1, 0), ints(1, 1), ints(1, -7),
		ints(2, 1, 2, 3, 4), ints(2, 0, 0, 0, 0), ints(2, 1, 2, 2, 4), ints(2, 0, 1, 1, 0), ints(2, 0, 1, 0, 5), ints(2, 0, 0, 3, 5),
		ints(3, 0, 1, 2, 1, 0, 3, 4, -3, 8), ints(3, 1, 2, 3, 4, 5, 6, 7, 8, 9), ints(3, 0, 0, 1, 0, 1, 0, 1, 0, 0),
		ints(3, 0, 1, 0, 0, 0, 1, 1, 0, 0), ints(3, 1, 1, 1, 1, 1, 1, 1, 1, 1), ints(3, 1, 2, 3, 2, 4, 7, 3, 7, 1), ints(3, 0, 2, 3, 0, 4, 7, 0, 7, 1),
		ints(4, 0, 0, 0, 2, 0, 0, 3, 0, 0, 5, 0, 0, 7, 0, 0, 0), ints(4, 1, 2, 3, 4, 2, 4, 6, 9, 3, 6, 1, 1, 4, 9, 1, 1),
		made(5, 5, func(i, k int) *big.Rat { return big.NewRat(1, int64(i+k+1)) }),
		made(6, 6, func(i, k int) *big.Rat { return big.NewRat(int64(i-k), int64(i*k+1)) }),
	}
}

// squares are examples and random square matrices of at most 6 rows.
func squares(seed int64, count int) []exact {
	r := rand.New(rand.NewSource(seed))
	list := examples()
	for range count {
		n := 1 + r.Intn(6)
		list = append(list, some(r, n, n, 3), some(r, n, n, 40), ranked(r, n, n, r.Intn(n+1), 5))
	}
	return list
}

// P6.2: Det, of small matrices.
func TestDet(t *testing.T) {
	for _, m := range squares(1, 100) {
		d, e := linear.Det(m.fracs())
		wantList(t, "Det", []api.Frac{d}, e, []*big.Rat{m.det()})
	}
}

// P6.2: Det, of matrices of all sizes whose determinant is known.
func TestKnownDet(t *testing.T) {
	r := rand.New(rand.NewSource(2))
	for n := 1; n <= api.MaxDim; n++ {
		for _, digits := range []int{1, 4, 20, 50} {
			m, det := regular(r, n, digits)
			d, e := linear.Det(m.fracs())
			if linear.Check(m.fracs()) == api.OK {
				wantList(t, "Det", []api.Frac{d}, e, []*big.Rat{det})
			} else if digits < 20 {
				t.Error("no test", n, digits)
			}
			d, e = linear.Det(ranked(r, n, n, n-1, digits/10+1).fracs())
			wantList(t, "Det of a singular matrix", []api.Frac{d}, e, []*big.Rat{new(big.Rat)})
		}
	}
}

// P6.2: Rank, of matrices of all shapes.
func TestRank(t *testing.T) {
	r := rand.New(rand.NewSource(3))
	check := func(m exact, rank int) {
		t.Helper()
		if got, e := linear.Rank(m.fracs()); got != rank || e != api.OK {
			t.Error("Rank", brief(m), got, e, "instead of", rank)
		}
	}
	for rows := 1; rows <= api.MaxDim; rows++ {
		for width := 1; width <= api.MaxDim; width++ {
			for _, rank := range []int{0, 1, min(rows, width) / 2, min(rows, width) - 1, min(rows, width)} {
				check(ranked(r, rows, width, rank, 3), rank)
			}
		}
	}
	check(ints(2, 1, 2, 2, 4, 0, 0), 1)
	check(ints(3, 0, 0, 1), 1)
	check(ints(1, 0, 0, 0, 5), 1)
	check(ints(4, 0, 1, 0, 2, 0, 3, 0, 6, 0, 0, 0, 1), 2)
	check(ints(4, 0, 1, 0, 2, 0, 3, 5, 6, 0, 0, 0, 1), 3)
}

// P6.2: Solve and Inverse, of matrices of all sizes.
func TestSolve(t *testing.T) {
	r := rand.New(rand.NewSource(4))
	for n := 1; n <= api.MaxDim; n++ {
		for _, digits := range []int{1, 3, 6} {
			m, _ := regular(r, n, digits)
			x := some(r, 1, n, 10)[0]
			got, e := linear.Solve(m.fracs(), fracs(m.times(x)))
			wantList(t, "Solve", got, e, x)
			inverse, e := linear.Inverse(m.fracs())
			if e != api.OK || len(inverse) != n {
				t.Fatal("Inverse", brief(m), e)
			}
			for _, row := range inverse {
				valid(t, "Inverse", row)
			}
			wantMatrix(t, "the product", m.mul(matrix(inverse)).fracs(), e, identity(n))
		}
	}
}

// P6.2: the solution with the right side 0, and of systems without
// denominators.
func TestSolveSmall(t *testing.T) {
	for _, m := range squares(5, 60) {
		n := len(m)
		x := made(1, n, func(_, k int) *big.Rat { return big.NewRat(int64(k*k-3), 1) })[0]
		got, e := linear.Solve(m.fracs(), fracs(m.times(x)))
		zero, f := linear.Solve(m.fracs(), of(make([]int64, n)...))
		inverse, g := linear.Inverse(m.fracs())
		if m.det().Sign() != 0 {
			wantList(t, "Solve", got, e, x)
			wantList(t, "Solve for 0", zero, f, ints(n, make([]int64, n)...)[0])
			wantMatrix(t, "the product", m.mul(matrix(inverse)).fracs(), g, identity(n))
			continue
		}
		if e != api.ErrZero || f != api.ErrZero || g != api.ErrZero || len(got)+len(zero)+len(inverse) > 0 {
			t.Error("a singular matrix", brief(m), e, f, g, got, zero, inverse)
		}
	}
}

// P6.2: a matrix that is singular has no solution also if the right side has one.
func TestSingular(t *testing.T) {
	r := rand.New(rand.NewSource(6))
	for n := 1; n <= api.MaxDim; n++ {
		m := ranked(r, n, n, r.Intn(n), 4)
		for _, b := range [][]api.Frac{fracs(m.times(some(r, 1, n, 5)[0])), fracs(some(r, 1, n, 5)[0])} {
			if x, e := linear.Solve(m.fracs(), b); e != api.ErrZero || len(x) > 0 {
				t.Error("Solve", brief(m), x, e)
			}
		}
		if x, e := linear.Inverse(m.fracs()); e != api.ErrZero || len(x) > 0 {
			t.Error("Inverse", brief(m), x, e)
		}
	}
}

// positive reports by determinants what Posdef should.
func (m exact) positive() bool {
	for i := range m {
		for k := range m {
			if m[i][k].Cmp(m[k][i]) != 0 {
				return false
			}
		}
	}
	for n := range m {
		if m.corner(n+1).det().Sign() <= 0 {
			return false
		}
	}
	return true
}

// wantPosdef checks what Posdef reports.
func wantPosdef(t *testing.T, m exact, want bool) {
	t.Helper()
	if got, e := linear.Posdef(m.fracs()); got != want || e != api.OK {
		t.Error("Posdef", brief(m), got, e)
	}
}

// P6.2: Posdef, of named cases.
func TestPosdefCases(t *testing.T) {
	for _, x := range []struct {
		m    exact
		want bool
	}{
		{ints(1, 1), true}, {ints(1, 0), false}, {ints(1, -1), false}, {made(1, 1, func(int, int) *big.Rat { return big.NewRat(1, 1000) }), true},
		{ints(2, 2, -1, -1, 2), true}, {ints(2, 1, 1, 1, 1), false}, {ints(2, 1, 2, 2, 1), false}, {ints(2, 0, 1, 1, 0), false},
		{ints(2, -1, 0, 0, -1), false}, {ints(2, 1, 0, 0, -1), false}, {ints(2, -1, 0, 0, 1), false}, {ints(2, 0, 0, 0, 1), false}, {ints(2, 1, 0, 0, 0), false},
		{ints(2, 1, -1, 1, 1), false}, {ints(2, 2, 1, 0, 2), false}, {ints(2, 2, 0, 1, 2), false},
		{ints(3, 2, -1, 0, -1, 2, -1, 0, -1, 2), true}, {ints(3, 2, -1, 0, -1, 2, -1, 0, -1, 0), false}, {ints(3, 2, -1, 0, -1, 2, -1, 1, -1, 2), false},
		{ints(3, 1, 0, 0, 0, -1, 0, 0, 0, -1), false}, {ints(3, 0, 0, 1, 0, 1, 0, 1, 0, 0), false}, {ints(3, 1, 1, 0, 1, 1, 1, 0, 1, 1), false},
		{identity(api.MaxDim), true},
		{made(8, 8, func(i, k int) *big.Rat { return big.NewRat(1, int64(i+k+1)) }), true},
	} {
		wantPosdef(t, x.m, x.want)
	}
}

// P6.2: Posdef, of random symmetric matrices.
func TestPosdef(t *testing.T) {
	r := rand.New(rand.NewSource(7))
	count := map[bool]int{}
	for range 300 {
		n := 1 + r.Intn(5)
		m := some(r, n, n, 4)
		wantPosdef(t, m, m.positive())
		for i := range m {
			for k := range i {
				m[i][k] = m[k][i]
			}
			m[i][i] = new(big.Rat).Abs(m[i][i])
			m[i][i].Add(m[i][i], big.NewRat(int64(r.Intn(10)), 1))
		}
		wantPosdef(t, m, m.positive())
		count[m.positive()]++
		square := m.mul(m.transposed())
		wantPosdef(t, square, m.det().Sign() != 0)
	}
	if count[true] < 50 || count[false] < 50 {
		t.Error("too few of one kind", count)
	}
}

// P6.2: matrices of the greatest size with the longest elements.
func TestExtremes(t *testing.T) {
	m := extreme(8)
	n := len(m)
	d, e := linear.Det(m.fracs())
	valid(t, "Det", []api.Frac{d})
	if want := m.residueDet(); e != api.OK || residue(value(d)).Cmp(residue(want)) != 0 {
		t.Error("Det", e)
	}
	if rank, e := linear.Rank(m.fracs()); rank != n || e != api.OK {
		t.Error("Rank", rank, e)
	}
	b := extreme(9)[0]
	x, e := linear.Solve(m.fracs(), fracs(b))
	valid(t, "Solve", x)
	if e != api.OK || len(x) != n {
		t.Fatal("Solve", e)
	}
	for i, y := range m.residues().times(exact{values(x)}.residues()[0]) {
		if residue(y).Cmp(residue(b[i])) != 0 {
			t.Error("Solve", i)
		}
	}
	inverse, e := linear.Inverse(m.fracs())
	if e != api.OK || len(inverse) != n {
		t.Fatal("Inverse", e)
	}
	product := m.residues().mul(matrix(inverse).residues()).residues()
	wantMatrix(t, "the product", product.fracs(), e, identity(n))
}

// P6.2: what is singular, or positive definite, at the limits.
func TestExtremeKinds(t *testing.T) {
	m := extreme(10)
	m[7] = slices.Clone(m[3])
	if d, e := linear.Det(m.fracs()); !sameFrac(d, of(0)[0]) || e != api.OK {
		t.Error("Det", e)
	}
	if rank, e := linear.Rank(m.fracs()); rank != api.MaxDim-1 || e != api.OK {
		t.Error("Rank", rank, e)
	}
	if _, e := linear.Inverse(m.fracs()); e != api.ErrZero {
		t.Error("Inverse", e)
	}
	for i := range m {
		for k := range i {
			m[i][k] = m[k][i]
		}
		m[i][i] = big.NewRat(2*api.MaxDim, 1)
	}
	wantPosdef(t, m, true)
	m[11][11] = new(big.Rat)
	wantPosdef(t, m, false)
}
