package linear_test

import (
	"math/big"
	"math/rand"
	"testing"

	"planisphere/api"
	"planisphere/linear"
)

// P6.4: the determinant of a product, of an inverse and of a transposed matrix.
func TestProducts(t *testing.T) {
	r := rand.New(rand.NewSource(41))
	det := func(m exact) *big.Rat {
		d, e := linear.Det(m.fracs())
		if e != api.OK {
			t.Fatal(brief(m), e)
		}
		return value(d)
	}
	for range 200 {
		n := 1 + r.Intn(8)
		a, b := some(r, n, n, 6), some(r, n, n, 6)
		if r.Intn(4) == 0 {
			a = ranked(r, n, n, r.Intn(n+1), 3)
		}
		product := new(big.Rat).Mul(det(a), det(b))
		if got := det(a.mul(b)); got.Cmp(product) != 0 {
			t.Error("the product", brief(a), brief(b), got, product)
		}
		if got := det(a.transposed()); got.Cmp(det(a)) != 0 {
			t.Error("the transposed matrix", brief(a), got)
		}
		if rank, e := linear.Rank(a.fracs()); e != api.OK || rank == n != (det(a).Sign() != 0) {
			t.Error("the rank", brief(a), rank, e)
		}
	}
}

// P6.4: the columns of the inverse matrix are solutions, and its inverse is the
// matrix.
func TestInverses(t *testing.T) {
	r := rand.New(rand.NewSource(42))
	for range 100 {
		n := 1 + r.Intn(4)
		m, _ := regular(r, n, 3)
		inverse, e := linear.Inverse(m.fracs())
		if e != api.OK {
			t.Fatal(brief(m), e)
		}
		back, e := linear.Inverse(inverse)
		wantMatrix(t, "the inverse of the inverse", back, e, m)
		for i, column := range matrix(inverse).transposed() {
			x, e := linear.Solve(m.fracs(), identity(n).fracs()[i])
			wantList(t, "Solve", x, e, column)
		}
	}
}

// P6.4: with any other list the sum is greater.
func TestOthers(t *testing.T) {
	r := rand.New(rand.NewSource(43))
	for _, s := range systems(44) {
		x, sum, e := linear.Least(s.rows, s.right, s.weights)
		if e != api.OK {
			continue
		}
		for range 5 {
			other := values(x)
			i := r.Intn(len(other))
			step := big.NewRat(1-2*r.Int63n(2), 1+r.Int63n(1<<60))
			other[i] = new(big.Rat).Add(other[i], step)
			if got := s.sum(other); got.Cmp(value(sum)) <= 0 {
				t.Error("not greater", brief(s), got, value(sum))
			}
		}
	}
}

// P6.4: the normal matrix is positive definite exactly if Least has no error,
// and Least solves its system.
func TestNormalSystem(t *testing.T) {
	for _, s := range systems(45) {
		m, e := linear.Normal(s.rows, s.weights)
		if e != api.OK {
			t.Fatal(brief(s), e)
		}
		x, _, e := linear.Least(s.rows, s.right, s.weights)
		positive, f := linear.Posdef(m)
		if f != api.OK || positive != (e == api.OK) {
			t.Error(brief(s), positive, e, f)
		}
		if e != api.OK {
			continue
		}
		right := s.weighted(s.residuals(nothing(len(x))))
		got, e := linear.Solve(m, fracs(s.matrix().transposed().times(right)))
		wantList(t, "Solve", got, e, values(x))
	}
}

// nothing is a list of zeros.
func nothing(n int) []*big.Rat { return ints(n, make([]int64, n)...)[0] }

// The examples of the chapter.
func TestExamples(t *testing.T) {
	m := ints(2, 1, 2, 3, 4).fracs()
	d, e := linear.Det(m)
	wantList(t, "Det", []api.Frac{d}, e, ints(1, -2)[0])
	x, e := linear.Solve(m, of(5, 6))
	wantList(t, "Solve", x, e, []*big.Rat{big.NewRat(-4, 1), big.NewRat(9, 2)})
	x, sum, e := linear.Least([][]int64{{1, 0}, {1, 1}, {1, 2}}, []int64{0, 1, 1}, []int64{1, 1, 1})
	wantList(t, "Least", append(x, sum), e, []*big.Rat{big.NewRat(1, 6), big.NewRat(1, 2), big.NewRat(1, 6)})
}
