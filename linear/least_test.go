package linear_test

import (
	"math/big"
	"math/rand"
	"testing"

	"planisphere/api"
	"planisphere/linear"
)

// system is a system of observations.
type system struct {
	rows           [][]int64
	right, weights []int64
}

// matrix is the rows as a matrix.
func (s system) matrix() exact {
	return made(len(s.rows), len(s.rows[0]), func(i, k int) *big.Rat { return big.NewRat(s.rows[i][k], 1) })
}

// weighted is a list, each number times the weight of its row.
func (s system) weighted(l []*big.Rat) []*big.Rat {
	var list []*big.Rat
	for i, x := range l {
		list = append(list, new(big.Rat).Mul(x, big.NewRat(s.weights[i], 1)))
	}
	return list
}

// residuals are those of a list.
func (s system) residuals(x []*big.Rat) []*big.Rat {
	list := s.matrix().times(x)
	for i, y := range list {
		list[i] = new(big.Rat).Sub(big.NewRat(s.right[i], 1), y)
	}
	return list
}

// sum is the sum of the weighted squares of the residuals of a list.
func (s system) sum(x []*big.Rat) *big.Rat {
	residuals := s.residuals(x)
	return exact{s.weighted(residuals)}.times(residuals)[0]
}

// normal is the normal matrix.
func (s system) normal() exact {
	var m exact
	for _, column := range s.matrix().transposed() {
		m = append(m, s.weighted(column))
	}
	return m.mul(s.matrix())
}

// size is a whole number of at most so many binary digits.
func size(r *rand.Rand, digits int) int64 { return r.Int63n(2<<digits+1) - 1<<digits }

// observed is a system with a number of rows and columns, and numbers of at
// most so many binary digits.
func observed(r *rand.Rand, rows, width, digits int) system {
	s := system{rows: make([][]int64, rows)}
	for i := range s.rows {
		for range width {
			s.rows[i] = append(s.rows[i], size(r, digits))
		}
		s.right = append(s.right, size(r, digits))
		s.weights = append(s.weights, 1+r.Int63n(1<<digits))
	}
	return s
}

// greatest is the system of most rows and columns, with the greatest numbers.
func greatest() system {
	s := observed(rand.New(rand.NewSource(31)), api.MaxRows, api.MaxDim, 40)
	for i, row := range s.rows {
		for k := range row {
			if i%(k+2) != 0 {
				row[k] = api.MaxSize
			} else {
				row[k] = -api.MaxSize
			}
		}
		s.right[i], s.weights[i] = -api.MaxSize, api.MaxSize
	}
	return s
}

// systems are valid systems, with more and with less rows than columns.
func systems(seed int64) []system {
	r := rand.New(rand.NewSource(seed))
	list := []system{
		{[][]int64{{1, 0}, {1, 1}, {1, 2}}, []int64{0, 1, 1}, []int64{1, 1, 1}},
		{[][]int64{{5}}, []int64{-3}, []int64{2}}, {[][]int64{{0}}, []int64{1}, []int64{1}},
		{[][]int64{{0}, {1}}, []int64{7, 7}, []int64{3, 1}},
		{[][]int64{{0, 1}, {1, 0}}, []int64{7, 8}, []int64{3, 1}}, {[][]int64{{0, 1}, {0, 2}}, []int64{7, 8}, []int64{3, 1}},
		{[][]int64{{1, 2, 3}, {4, 5, 6}, {7, 8, 9}, {2, 4, 6}}, []int64{1, 2, 3, 4}, []int64{1, 1, 2, 2}},
		greatest(), observed(r, api.MaxRows, api.MaxDim, 40), observed(r, api.MaxDim, api.MaxDim, 40), observed(r, api.MaxRows, 1, 40),
	}
	for range 60 {
		width := 1 + r.Intn(6)
		list = append(list, observed(r, 1+r.Intn(2*width+2), width, r.Intn(3)), observed(r, width+r.Intn(20), width, 1+r.Intn(40)))
	}
	return list
}

// P6.3: Normal.
func TestNormal(t *testing.T) {
	for _, s := range systems(32) {
		m, e := linear.Normal(s.rows, s.weights)
		wantMatrix(t, "Normal", m, e, s.normal())
	}
}

// P6.3: Least. The list is the only one for which the weighted residuals are
// orthogonal to the columns, unless the columns depend on each other.
func TestLeast(t *testing.T) {
	count := map[api.Errno]int{}
	for _, s := range systems(33) {
		x, sum, e := linear.Least(s.rows, s.right, s.weights)
		count[e]++
		rank, _ := linear.Rank(s.normal().fracs())
		if rank < len(s.rows[0]) {
			if e != api.ErrShort || len(x) > 0 || !sameFrac(sum, api.Frac{}) {
				t.Error("more than one list", brief(s), e, x, sum)
			}
			continue
		}
		if e != api.OK || len(x) != len(s.rows[0]) {
			t.Error(brief(s), e)
			continue
		}
		valid(t, "Least", append(x, sum))
		list := values(x)
		for _, y := range s.matrix().transposed().times(s.weighted(s.residuals(list))) {
			if y.Sign() != 0 {
				t.Error("not orthogonal", brief(s), brief(list), y)
			}
		}
		wantList(t, "the sum", []api.Frac{sum}, e, []*big.Rat{s.sum(list)})
	}
	if count[api.OK] < 50 || count[api.ErrShort] < 15 {
		t.Error("too few of one kind", count)
	}
}

// P6.3: Least, of systems that a list solves: the sum is 0.
func TestExactLeast(t *testing.T) {
	r := rand.New(rand.NewSource(34))
	for width := 1; width <= api.MaxDim; width++ {
		for _, rows := range []int{width, width + 1, 40, api.MaxRows} {
			s := observed(r, rows, width, 15)
			x := made(1, width, func(int, int) *big.Rat { return big.NewRat(size(r, 20), 1) })[0]
			for i, y := range s.matrix().times(x) {
				s.right[i] = y.Num().Int64()
			}
			got, sum, e := linear.Least(s.rows, s.right, s.weights)
			wantList(t, "Least", got, e, x)
			wantList(t, "the sum", []api.Frac{sum}, e, []*big.Rat{new(big.Rat)})
		}
	}
}

// P6.3: ErrShort for less rows than columns, and for columns that depend on
// each other, also if some list has no residuals.
func TestShort(t *testing.T) {
	r := rand.New(rand.NewSource(35))
	short := func(s system) {
		t.Helper()
		if x, sum, e := linear.Least(s.rows, s.right, s.weights); e != api.ErrShort || len(x) > 0 || !sameFrac(sum, api.Frac{}) {
			t.Error(brief(s), x, sum, e)
		}
		if m, e := linear.Normal(s.rows, s.weights); e != api.OK || len(m) != len(s.rows[0]) {
			t.Error("Normal", brief(s), e)
		}
	}
	for width := 2; width <= api.MaxDim; width++ {
		short(observed(r, width-1, width, 40))
		s := observed(r, 3*width, width, 20)
		for i, row := range s.rows {
			row[width-1] = 3*row[0] - 2*row[(width-1)/2]
			s.right[i] = 5 * row[0]
		}
		short(s)
	}
	zero := observed(r, api.MaxRows, api.MaxDim, 40)
	for _, row := range zero.rows {
		clear(row)
	}
	short(zero)
}
