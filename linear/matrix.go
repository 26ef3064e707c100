package linear

import (
	"slices"

	"planisphere/api"
	"planisphere/frac"
	"planisphere/sure"
	"planisphere/wide"
)

// whole returns the rows of a matrix, each one times the least factor for which
// its elements are whole numbers, and these factors.
func whole(a [][]api.Frac) (rows [][]api.Wide, factors []api.Wide) {
	for _, row := range a {
		by := multiple(row)
		var numbers []api.Wide
		for _, f := range row {
			numbers = append(numbers, sure.Mul(f.Num, sure.Over(by, f.Den)))
		}
		rows = append(rows, numbers)
		factors = append(factors, by)
	}
	return rows, factors
}

// multiple returns the least common multiple of the Dens of fractions.
func multiple(row []api.Frac) api.Wide {
	m := wide.From(1)
	for _, f := range row {
		m = sure.Mul(m, sure.Over(f.Den, sure.Gcd(m, f.Den)))
	}
	return m
}

// beside returns the rows of two matrices with as many rows, side by side.
func beside[T any](a, b [][]T) [][]T {
	var rows [][]T
	for i, row := range a {
		rows = append(rows, slices.Concat(row, b[i]))
	}
	return rows
}

// column returns a list as a matrix with one column.
func column[T any](l []T) [][]T {
	var rows [][]T
	for _, x := range l {
		rows = append(rows, []T{x})
	}
	return rows
}

// firsts returns the first element of each row.
func firsts[T any](rows [][]T) []T {
	var l []T
	for _, row := range rows {
		l = append(l, row[0])
	}
	return l
}

// identity returns the matrix of n rows that changes nothing.
func identity(n int) [][]api.Frac {
	rows := make([][]api.Frac, n)
	for i := range rows {
		for k := range n {
			x := int64(0)
			if i == k {
				x = 1
			}
			rows[i] = append(rows[i], fraction(wide.From(x), wide.From(1)))
		}
	}
	return rows
}

// fraction returns the fraction of two numbers that are sure to have one.
func fraction(num, den api.Wide) api.Frac {
	f, _ := frac.Make(num, den)
	return f
}
