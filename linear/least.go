package linear

import (
	"planisphere/api"
	"planisphere/sure"
	"planisphere/wide"
)

// checkSystem returns the error of a system of observations without its right
// side.
func checkSystem(rows [][]int64, weights []int64) api.Errno {
	if e := checkShape(rows, api.MaxRows); e != api.OK {
		return e
	}
	for _, row := range rows {
		if !isWithin(row, -api.MaxSize) {
			return api.ErrBad
		}
	}
	if len(weights) != len(rows) || !isWithin(weights, 1) {
		return api.ErrBad
	}
	return api.OK
}

// isWithin reports whether all numbers are from the least one to MaxSize.
func isWithin(l []int64, least int64) bool {
	for _, n := range l {
		if n < least || n > api.MaxSize {
			return false
		}
	}
	return true
}

// Normal returns the normal matrix.
func Normal(rows [][]int64, weights []int64) ([][]api.Frac, api.Errno) {
	if e := checkSystem(rows, weights); e != api.OK {
		return nil, e
	}
	var normal [][]api.Frac
	for _, sums := range products(rows, weights) {
		var row []api.Frac
		for _, sum := range sums {
			row = append(row, fraction(sum, wide.From(1)))
		}
		normal = append(normal, row)
	}
	return normal, api.OK
}

// Least returns the list for which the sum of the weighted squares of the
// residuals is least, and this sum.
func Least(rows [][]int64, right, weights []int64) (x []api.Frac, sum api.Frac, e api.Errno) {
	if e := checkSystem(rows, weights); e != api.OK {
		return nil, api.Frac{}, e
	}
	if len(right) != len(rows) || !isWithin(right, -api.MaxSize) {
		return nil, api.Frac{}, api.ErrBad
	}
	// With the right side as one more column, the normal matrix has beside it
	// what its products with x have to be, and its determinant is that of the
	// normal matrix alone times the least sum.
	n := len(rows[0])
	s := eliminate(products(beside(rows, column(right)), weights), n)
	if s.rank < n {
		return nil, api.Frac{}, api.ErrShort
	}
	return firsts(s.solution()), fraction(s.rows[n][n], s.last), api.OK
}

// products returns the normal matrix in whole numbers.
func products(rows [][]int64, weights []int64) [][]api.Wide {
	sums := make([][]api.Wide, len(rows[0]))
	for i := range sums {
		sums[i] = make([]api.Wide, len(sums))
	}
	for r, row := range rows {
		var numbers []api.Wide
		for _, n := range row {
			numbers = append(numbers, wide.From(n))
		}
		for i, x := range numbers {
			weighted := sure.Mul(wide.From(weights[r]), x)
			for k, y := range numbers {
				sums[i][k] = sure.Add(sums[i][k], sure.Mul(weighted, y))
			}
		}
	}
	return sums
}
