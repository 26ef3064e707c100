package linear

import (
	"planisphere/api"
	"planisphere/sure"
	"planisphere/wide"
)

// stairs is what elimination makes of rows of whole numbers. The first rows
// have a pivot each: their first element other than 0, further to the right in
// each row, and below them are only rows of 0, if all columns may have pivots.
// The element of a row in a column is the determinant of the rows from the
// first one to it, in the columns of the pivots above it and this one
// (Bareiss's rule): no number is longer than those that the result is made of.
type stairs struct {
	rows      [][]api.Wide
	width     int // the columns that may have pivots
	rank      int // how many pivots there are
	exchanges int
	last      api.Wide // the last pivot, or 1
}

// eliminate returns the stairs of rows with pivots in so many columns.
func eliminate(rows [][]api.Wide, width int) stairs {
	s := stairs{rows: copied(rows), width: width, last: wide.From(1)}
	exchange := func(i, k int) {
		if i != k {
			s.rows[i], s.rows[k] = s.rows[k], s.rows[i]
			s.exchanges++
		}
	}
	combine := func(row, top []api.Wide, c int) {
		pivot, part := top[c], row[c]
		row[c] = api.Wide{}
		for k := c + 1; k < len(row); k++ {
			mixed := sure.Sub(sure.Mul(pivot, row[k]), sure.Mul(part, top[k]))
			row[k] = sure.Over(mixed, s.last)
		}
	}
	for c := range width {
		i := s.rank
		for ; i < len(rows); i++ {
			if !sure.IsZero(s.rows[i][c]) {
				goto found
			}
		}
		continue
	found:
		exchange(i, s.rank)
		top := s.rows[s.rank]
		s.rank++
		for _, row := range s.rows[s.rank:] {
			combine(row, top, c)
		}
		s.last = top[c]
	}
	return s
}

// copied returns a copy of rows, in which numbers can be replaced.
func copied(rows [][]api.Wide) [][]api.Wide {
	fresh := make([][]api.Wide, len(rows))
	for i, row := range rows {
		fresh[i] = make([]api.Wide, len(row))
		copy(fresh[i], row)
	}
	return fresh
}

// det returns the determinant of a square matrix.
func (s stairs) det() api.Wide {
	switch {
	case s.rank < s.width:
		return api.Wide{}
	case s.exchanges%2 == 1:
		return sure.Neg(s.last)
	}
	return s.last
}

// isPositive reports whether all determinants of the first rows and columns of
// a square matrix are greater than 0. They are on the diagonal, unless one of
// them is 0, which stays there or has led to an exchange.
func (s stairs) isPositive() bool {
	if s.exchanges > 0 {
		return false
	}
	for i, row := range s.rows {
		if sure.Sign(row[i]) <= 0 {
			return false
		}
	}
	return true
}

// solution returns the matrix whose product with the first columns is the
// others, if all the first columns have pivots: all its elements are whole
// numbers over the last pivot (Cramer's rule).
func (s stairs) solution() [][]api.Frac {
	numbers, fractions := make([][]api.Wide, s.width), make([][]api.Frac, s.width)
	for i := s.width - 1; i >= 0; i-- {
		row := s.rows[i]
		for k, right := range row[s.width:] {
			rest := sure.Mul(s.last, right)
			for below := i + 1; below < s.width; below++ {
				rest = sure.Sub(rest, sure.Mul(row[below], numbers[below][k]))
			}
			x := sure.Over(rest, row[i])
			numbers[i] = append(numbers[i], x)
			fractions[i] = append(fractions[i], fraction(x, s.last))
		}
	}
	return fractions
}
