package linear_test

import (
	"fmt"
	"math/big"
	"math/rand"
	"slices"
	"testing"

	"planisphere/api"
	"planisphere/frac"
)

// exact is a matrix as the tests reckon with it.
type exact [][]*big.Rat

// whole is a number of any size as api.Wide.
func whole(n *big.Int) api.Wide {
	w := api.Wide{Neg: n.Sign() < 0}
	for rest := new(big.Int).Abs(n); rest.Sign() > 0; rest.Rsh(rest, 32) {
		w.Mag = append(w.Mag, uint32(rest.Uint64()))
	}
	return w
}

// number is what an api.Wide stands for.
func number(w api.Wide) *big.Int {
	n := new(big.Int)
	for _, limb := range slices.Backward(w.Mag) {
		n.Or(n.Lsh(n, 32), big.NewInt(int64(limb)))
	}
	if w.Neg {
		n.Neg(n)
	}
	return n
}

// fraction is a number as api.Frac.
func fraction(x *big.Rat) api.Frac { return api.Frac{Num: whole(x.Num()), Den: whole(x.Denom())} }

// value is what a valid api.Frac stands for.
func value(f api.Frac) *big.Rat { return new(big.Rat).SetFrac(number(f.Num), number(f.Den)) }

// of is a list of small whole numbers as api.Frac.
func of(l ...int64) []api.Frac { return fracs(ints(len(l), l...)[0]) }

// fracs is a list as api.Frac.
func fracs(l []*big.Rat) []api.Frac {
	var list []api.Frac
	for _, x := range l {
		list = append(list, fraction(x))
	}
	return list
}

// values is what a list of valid api.Frac stands for.
func values(l []api.Frac) []*big.Rat {
	var list []*big.Rat
	for _, f := range l {
		list = append(list, value(f))
	}
	return list
}

// ints is the matrix of small whole numbers, with rows of so many.
func ints(width int, l ...int64) exact {
	var m exact
	for row := range slices.Chunk(l, width) {
		var numbers []*big.Rat
		for _, n := range row {
			numbers = append(numbers, big.NewRat(n, 1))
		}
		m = append(m, numbers)
	}
	return m
}

// made is a matrix with the elements that a function says.
func made(rows, width int, element func(i, k int) *big.Rat) exact {
	m := make(exact, rows)
	for i := range m {
		for k := range width {
			m[i] = append(m[i], element(i, k))
		}
	}
	return m
}

// identity is the matrix that changes nothing.
func identity(n int) exact {
	return made(n, n, func(i, k int) *big.Rat {
		if i == k {
			return big.NewRat(1, 1)
		}
		return new(big.Rat)
	})
}

// fracs is a matrix as lists of api.Frac.
func (m exact) fracs() [][]api.Frac {
	var rows [][]api.Frac
	for _, row := range m {
		rows = append(rows, fracs(row))
	}
	return rows
}

// matrix is what lists of valid api.Frac stand for.
func matrix(rows [][]api.Frac) exact {
	var m exact
	for _, row := range rows {
		m = append(m, values(row))
	}
	return m
}

func (m exact) mul(n exact) exact {
	return made(len(m), len(n[0]), func(i, k int) *big.Rat {
		sum := new(big.Rat)
		for j, x := range m[i] {
			sum.Add(sum, new(big.Rat).Mul(x, n[j][k]))
		}
		return sum
	})
}

func (m exact) transposed() exact {
	return made(len(m[0]), len(m), func(i, k int) *big.Rat { return m[k][i] })
}

// times is the list of the products of the rows and a list.
func (m exact) times(l []*big.Rat) []*big.Rat {
	column := made(len(l), 1, func(i, _ int) *big.Rat { return l[i] })
	return m.mul(column).transposed()[0]
}

// corner is the matrix of the first n rows and columns.
func (m exact) corner(n int) exact { return made(n, n, func(i, k int) *big.Rat { return m[i][k] }) }

// det is the determinant by its expansion along the first row.
func (m exact) det() *big.Rat {
	if len(m) == 0 {
		return big.NewRat(1, 1)
	}
	sum := new(big.Rat)
	for c, x := range m[0] {
		if x.Sign() == 0 {
			continue
		}
		rest := made(len(m)-1, len(m)-1, func(i, k int) *big.Rat {
			if k >= c {
				k++
			}
			return m[i+1][k]
		})
		part := new(big.Rat).Mul(x, rest.det())
		if c%2 == 1 {
			part.Neg(part)
		}
		sum.Add(sum, part)
	}
	return sum
}

// random is a fraction whose numbers have at most so many binary digits.
func random(r *rand.Rand, digits int) *big.Rat {
	size := new(big.Int).Lsh(big.NewInt(1), uint(digits))
	num := new(big.Int).Rand(r, size)
	if r.Intn(2) == 0 {
		num.Neg(num)
	}
	den := new(big.Int).Rand(r, size)
	if r.Intn(3) == 0 || den.Sign() == 0 {
		den.SetInt64(1)
	}
	return new(big.Rat).SetFrac(num, den)
}

// some is a matrix of fractions with at most so many binary digits, a quarter
// of them 0.
func some(r *rand.Rand, rows, width, digits int) exact {
	return made(rows, width, func(int, int) *big.Rat {
		if r.Intn(4) == 0 {
			return new(big.Rat)
		}
		return random(r, digits)
	})
}

// regular is a matrix whose determinant is known and not 0: the product of
// matrices with 0 on one side of the diagonal, with its rows exchanged.
func regular(r *rand.Rand, n, digits int) (m exact, det *big.Rat) {
	det = big.NewRat(1, 1)
	low, high := some(r, n, n, digits), some(r, n, n, digits)
	for i := range n {
		for k := range i {
			low[k][i], high[i][k] = new(big.Rat), new(big.Rat)
		}
		low[i][i] = big.NewRat(1, 1)
		for high[i][i].Sign() == 0 {
			high[i][i] = random(r, digits)
		}
		det.Mul(det, high[i][i])
	}
	m = low.mul(high)
	for i := range n {
		if k := r.Intn(i + 1); k != i {
			m[i], m[k] = m[k], m[i]
			det.Neg(det)
		}
	}
	return m, det
}

// ranked is a matrix of a known rank: the product of two that have the identity
// in some of their rows or columns.
func ranked(r *rand.Rand, rows, width, rank, digits int) exact {
	if rank == 0 {
		return made(rows, width, func(int, int) *big.Rat { return new(big.Rat) })
	}
	left, right := some(r, rows, rank, digits), some(r, rank, width, digits)
	for i, row := range r.Perm(rows)[:rank] {
		left[row] = identity(rank)[i]
	}
	for i, column := range r.Perm(width)[:rank] {
		for k := range rank {
			right[k][column] = identity(rank)[k][i]
		}
	}
	return left.mul(right)
}

// longest is a fraction with numbers of MaxEntry limbs, from 1/2 to 2 but for
// its sign.
func longest(r *rand.Rand) *big.Rat {
	half := new(big.Int).Lsh(big.NewInt(1), 32*api.MaxEntry-1)
	x := new(big.Rat)
	for x.Num().BitLen() <= 32*(api.MaxEntry-1) || x.Denom().BitLen() <= 32*(api.MaxEntry-1) {
		num, den := new(big.Int).Rand(r, half), new(big.Int).Rand(r, half)
		x.SetFrac(num.Add(num, half), den.Add(den, half))
	}
	if r.Intn(2) == 0 {
		x.Neg(x)
	}
	return x
}

// extreme is a matrix of the greatest size with the longest elements.
func extreme(seed int64) exact {
	r := rand.New(rand.NewSource(seed))
	return made(api.MaxDim, api.MaxDim, func(int, int) *big.Rat { return longest(r) })
}

// prime is 2^255 - 19. What is equal by it is equal, as good as certainly, and
// takes less time to compare than fractions at the limits.
func prime() *big.Int {
	p := new(big.Int).Lsh(big.NewInt(1), 255)
	return p.Sub(p, big.NewInt(19))
}

// residue is a number by the prime.
func residue(x *big.Rat) *big.Rat {
	n := new(big.Int).ModInverse(x.Denom(), prime())
	n.Mul(n, x.Num())
	return new(big.Rat).SetInt(n.Mod(n, prime()))
}

// residues is a matrix by the prime.
func (m exact) residues() exact {
	return made(len(m), len(m[0]), func(i, k int) *big.Rat { return residue(m[i][k]) })
}

// residueDet is the determinant by the prime, by elimination.
func (m exact) residueDet() *big.Rat {
	m = m.residues()
	det := big.NewRat(1, 1)
	for c := range m {
		i := c
		for i < len(m) && m[i][c].Sign() == 0 {
			i++
		}
		if i == len(m) {
			return new(big.Rat)
		}
		if i != c {
			m[i], m[c] = m[c], m[i]
			det.Neg(det)
		}
		det = residue(det.Mul(det, m[c][c]))
		for _, row := range m[c+1:] {
			part := residue(new(big.Rat).Quo(row[c], m[c][c]))
			for k := range row {
				row[k] = residue(new(big.Rat).Sub(row[k], new(big.Rat).Mul(part, m[c][k])))
			}
		}
	}
	return det
}

// sameFrac reports whether two fractions have the same fields.
func sameFrac(a, b api.Frac) bool { return sameWide(a.Num, b.Num) && sameWide(a.Den, b.Den) }

func sameWide(a, b api.Wide) bool { return a.Neg == b.Neg && slices.Equal(a.Mag, b.Mag) }

// same reports whether two lists have the same fractions.
func same(a, b []api.Frac) bool { return slices.EqualFunc(a, b, sameFrac) }

// brief is a text for messages, of which long ones have the beginning.
func brief(x any) string {
	text := fmt.Sprint(x)
	return text[:min(len(text), 300)]
}

// wantList checks a list of fractions against the one that it should be.
func wantList(t *testing.T, what string, got []api.Frac, e api.Errno, l []*big.Rat) {
	t.Helper()
	if e != api.OK || !same(got, fracs(l)) {
		t.Error(what, brief(values(got)), e, "instead of", brief(l))
	}
}

// wantMatrix checks a matrix against the one that it should be.
func wantMatrix(t *testing.T, what string, got [][]api.Frac, e api.Errno, m exact) {
	t.Helper()
	if e != api.OK || !slices.EqualFunc(got, m.fracs(), same) {
		t.Error(what, brief(matrix(got)), e, "instead of", brief(m))
	}
}

// valid checks that all fractions of a result are valid ones.
func valid(t *testing.T, what string, l []api.Frac) {
	t.Helper()
	for i, f := range l {
		if e := frac.Check(f); e != api.OK {
			t.Error(what, i, e)
		}
	}
}
