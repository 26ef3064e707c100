package linear_test

import (
	"math"
	"math/big"
	"slices"
	"strconv"
	"testing"

	"planisphere/api"
	"planisphere/linear"
	"planisphere/wide"
)

// outcome is what a call returns: its lists of fractions, or a count, and the
// error.
type outcome struct {
	lists [][]api.Frac
	count int
	e     api.Errno
}

// single is an outcome with a fraction, if it is no zero value.
func single(f api.Frac, e api.Errno) outcome {
	if sameFrac(f, api.Frac{}) {
		return outcome{e: e}
	}
	return outcome{lists: [][]api.Frac{{f}}, e: e}
}

// list is an outcome with a list, if it is not empty.
func list(l []api.Frac, e api.Errno) outcome {
	if len(l) == 0 {
		return outcome{e: e}
	}
	return outcome{lists: [][]api.Frac{l}, e: e}
}

// matrixCalls are the functions with a matrix, by their names.
func matrixCalls() map[string]func(a [][]api.Frac, b []api.Frac) outcome {
	return map[string]func(a [][]api.Frac, b []api.Frac) outcome{
		"Check": func(a [][]api.Frac, _ []api.Frac) outcome { return outcome{e: linear.Check(a)} },
		"Det":   func(a [][]api.Frac, _ []api.Frac) outcome { return single(linear.Det(a)) },
		"Rank": func(a [][]api.Frac, _ []api.Frac) outcome {
			n, e := linear.Rank(a)
			return outcome{count: n, e: e}
		},
		"Solve": func(a [][]api.Frac, b []api.Frac) outcome { return list(linear.Solve(a, b)) },
		"Inverse": func(a [][]api.Frac, _ []api.Frac) outcome {
			m, e := linear.Inverse(a)
			return outcome{lists: m, e: e}
		},
		"Posdef": func(a [][]api.Frac, _ []api.Frac) outcome {
			is, e := linear.Posdef(a)
			if is {
				return outcome{count: 1, e: e}
			}
			return outcome{e: e}
		},
	}
}

// systemCalls are the functions with a system of observations.
func systemCalls() map[string]func(s system) outcome {
	return map[string]func(s system) outcome{
		"Normal": func(s system) outcome {
			m, e := linear.Normal(s.rows, s.weights)
			return outcome{lists: m, e: e}
		},
		"Least": func(s system) outcome {
			x, sum, e := linear.Least(s.rows, s.right, s.weights)
			both := list(x, e)
			both.lists = append(both.lists, single(sum, e).lists...)
			return both
		},
	}
}

// fails checks that an outcome is an error, and nothing else.
func fails(t *testing.T, what string, got outcome, e api.Errno) {
	t.Helper()
	if got.e != e {
		t.Error(what, "has the error", got.e, "instead of", e)
	}
	if len(got.lists) > 0 || got.count != 0 {
		t.Error(what, "has a result with an error")
	}
}

// square names the functions that want a square matrix.
func square() []string { return []string{"Det", "Solve", "Inverse", "Posdef"} }

// badElements are fractions that no matrix has.
func badElements() []api.Frac {
	one, two := wide.From(1), wide.From(2)
	long := whole(new(big.Int).Lsh(big.NewInt(1), 32*api.MaxEntry))
	return []api.Frac{
		{}, {Num: one}, {Den: two}, {Num: two, Den: two}, {Num: one, Den: wide.From(-1)}, {Num: api.Wide{Neg: true}, Den: one},
		{Num: api.Wide{Mag: []uint32{1, 0}}, Den: one}, {Num: one, Den: api.Wide{Mag: []uint32{1, 0}}}, {Num: one, Den: api.Wide{Mag: []uint32{0}}},
		{Num: long, Den: one}, {Num: api.Wide{Neg: true, Mag: long.Mag}, Den: one}, {Num: one, Den: long}, {Num: long, Den: long},
		{Num: api.Wide{Mag: make([]uint32, api.MaxEntry+1)}, Den: one}, {Num: one, Den: api.Wide{Mag: make([]uint32, api.MaxLimbs+1)}},
		{Num: api.Wide{Mag: slices.Repeat([]uint32{1}, api.MaxLimbs+1)}, Den: one},
	}
}

// zeros is a matrix of zeros.
func zeros(rows, width int) [][]api.Frac {
	return made(rows, width, func(int, int) *big.Rat { return new(big.Rat) }).fracs()
}

// largest is 2^256 - 1, the greatest number of an element.
func largest() *big.Int {
	n := new(big.Int).Lsh(big.NewInt(1), 32*api.MaxEntry)
	return n.Sub(n, big.NewInt(1))
}

// P6.1: matrices that are valid.
func TestValid(t *testing.T) {
	most := fraction(new(big.Rat).SetInt(largest()))
	least := fraction(new(big.Rat).SetFrac(big.NewInt(-2), largest()))
	for rows := 1; rows <= api.MaxDim; rows++ {
		for width := 1; width <= api.MaxDim; width++ {
			a := zeros(rows, width)
			a[rows/2][width-1] = most
			a[rows-1][width/2] = least
			for name, call := range matrixCalls() {
				got := call(a, zeros(1, rows)[0])
				switch isSquare := slices.Contains(square(), name); {
				case isSquare && rows != width:
					fails(t, name+" of no square", got, api.ErrBad)
				case got.e != api.OK && (got.e != api.ErrZero || !isSquare):
					t.Error(name, rows, width, got.e)
				}
			}
		}
	}
}

// P6.1: the errors of matrices, which come first, whatever b is.
func TestMatrixErrors(t *testing.T) {
	many, bad := [][][]api.Frac{
		zeros(api.MaxDim+1, 1), zeros(api.MaxDim+1, api.MaxDim+1), zeros(1, api.MaxDim+1), zeros(api.MaxDim, api.MaxDim+1),
		zeros(50, 50), make([][]api.Frac, api.MaxDim+1), append(zeros(2, 2), zeros(1, 13)...), append([][]api.Frac{nil}, zeros(1, 13)...),
		{badElements()[:1], slices.Repeat(badElements()[:1], api.MaxDim+1)}, slices.Repeat([][]api.Frac{badElements()[:1]}, api.MaxDim+1),
	}, [][][]api.Frac{
		nil, {}, {nil}, {{}}, {nil, nil}, make([][]api.Frac, api.MaxDim), append(zeros(2, 3), zeros(1, 2)...), append(zeros(2, 2), zeros(1, 3)...),
		append(zeros(2, 2), nil), append([][]api.Frac{{}}, zeros(2, 2)...), {of(1, 2), of(3)}, {of(1), of(2, 3)},
	}
	for _, f := range badElements() {
		first, last := zeros(3, 3), zeros(api.MaxDim, api.MaxDim)
		first[0][0], last[api.MaxDim-1][api.MaxDim-1] = f, f
		bad = append(bad, first, last, [][]api.Frac{{f}})
	}
	for name, call := range matrixCalls() {
		for _, b := range [][]api.Frac{nil, of(1, 2, 3), badElements()} {
			for i, a := range many {
				fails(t, name+" of the large matrix "+strconv.Itoa(i), call(a, b), api.ErrMany)
			}
			for i, a := range bad {
				fails(t, name+" of the bad matrix "+strconv.Itoa(i), call(a, b), api.ErrBad)
			}
		}
	}
}

// P6.2: ErrBad of the right side, before ErrZero.
func TestRightSide(t *testing.T) {
	matrices := []exact{ints(2, 1, 2, 3, 4), ints(2, 1, 2, 2, 4), ints(2, 0, 0, 0, 0), identity(2)}
	sides := [][]api.Frac{nil, {}, of(1), of(1, 2, 3), of(make([]int64, 50)...)}
	for _, f := range badElements() {
		sides = append(sides, []api.Frac{f, of(1)[0]}, []api.Frac{of(0)[0], f}, []api.Frac{f, f, f})
	}
	for _, m := range matrices {
		for _, b := range sides {
			fails(t, "Solve", list(linear.Solve(m.fracs(), b)), api.ErrBad)
		}
	}
	b := fracs([]*big.Rat{new(big.Rat).SetInt(largest()), new(big.Rat).SetFrac(big.NewInt(1), largest())})
	x, e := linear.Solve(identity(2).fracs(), b)
	wantList(t, "the longest right side", x, e, values(b))
}

// plain is a system without an error, with a number of rows and columns.
func plain(rows, width int) system {
	s := system{right: make([]int64, rows), weights: slices.Repeat([]int64{1}, rows)}
	for i := range rows {
		row := make([]int64, width)
		row[i%width] = 1
		s.rows = append(s.rows, row)
	}
	return s
}

// P6.3: the limits of systems, and what is beyond them.
func TestSystemErrors(t *testing.T) {
	for _, x := range []struct {
		what   string
		change func(s *system)
		e      api.Errno
	}{
		{"nothing", func(s *system) {}, api.OK},
		{"the greatest element", func(s *system) { s.rows[2][1] = api.MaxSize }, api.OK},
		{"the least element", func(s *system) { s.rows[0][0] = -api.MaxSize }, api.OK},
		{"the greatest weight", func(s *system) { s.weights[3] = api.MaxSize }, api.OK},
		{"too great an element", func(s *system) { s.rows[3][1] = api.MaxSize + 1 }, api.ErrBad},
		{"too low an element", func(s *system) { s.rows[0][0] = -api.MaxSize - 1 }, api.ErrBad},
		{"the greatest int64", func(s *system) { s.rows[1][1] = math.MaxInt64 }, api.ErrBad},
		{"the least int64", func(s *system) { s.rows[1][1] = math.MinInt64 }, api.ErrBad},
		{"the weight 0", func(s *system) { s.weights[0] = 0 }, api.ErrBad},
		{"a negative weight", func(s *system) { s.weights[3] = -1 }, api.ErrBad},
		{"too great a weight", func(s *system) { s.weights[2] = api.MaxSize + 1 }, api.ErrBad},
		{"the least weight of all", func(s *system) { s.weights[2] = math.MinInt64 }, api.ErrBad},
		{"too few weights", func(s *system) { s.weights = s.weights[:3] }, api.ErrBad},
		{"too many weights", func(s *system) { s.weights = append(s.weights, 1) }, api.ErrBad},
		{"no weights", func(s *system) { s.weights = nil }, api.ErrBad},
		{"no rows", func(s *system) { s.rows = nil }, api.ErrBad},
		{"nothing at all", func(s *system) { *s = system{} }, api.ErrBad},
		{"empty rows", func(s *system) { s.rows = make([][]int64, 4) }, api.ErrBad},
		{"an empty row", func(s *system) { s.rows[2] = nil }, api.ErrBad},
		{"a first row that is empty", func(s *system) { s.rows[0] = []int64{} }, api.ErrBad},
		{"a short row", func(s *system) { s.rows[3] = s.rows[3][:1] }, api.ErrBad},
		{"a long row", func(s *system) { s.rows[1] = append(s.rows[1], 0) }, api.ErrBad},
		{"a row too few", func(s *system) { s.rows = s.rows[:3] }, api.ErrBad},
		{"a row too many", func(s *system) { s.rows = append(s.rows, s.rows[0]) }, api.ErrBad},
		{"a row that is much too long", func(s *system) { s.rows[3] = make([]int64, api.MaxDim+1) }, api.ErrMany},
		{"the same after an empty row", func(s *system) { s.rows[0], s.rows[1] = nil, make([]int64, 50) }, api.ErrMany},
		{"the same without weights", func(s *system) { s.rows[0], s.weights = make([]int64, api.MaxDim+1), nil }, api.ErrMany},
		{"the same with a bad element", func(s *system) { s.rows[0], s.rows[3] = []int64{math.MinInt64, 0}, make([]int64, 13) }, api.ErrMany},
		{"many rows", func(s *system) { s.rows = make([][]int64, api.MaxRows+1) }, api.ErrMany},
		{"many of all", func(s *system) { *s = plain(api.MaxRows+1, 2) }, api.ErrMany},
		{"most of all", func(s *system) { *s = plain(api.MaxRows, api.MaxDim) }, api.OK},
		{"many columns", func(s *system) { *s = plain(20, api.MaxDim+1) }, api.ErrMany},
		{"many rows and columns", func(s *system) { *s = plain(500, 500) }, api.ErrMany},
	} {
		for name, call := range systemCalls() {
			s := plain(4, 2)
			x.change(&s)
			if got := call(s); x.e != api.OK {
				fails(t, name+" with "+x.what, got, x.e)
			} else if got.e != api.OK || len(got.lists) == 0 {
				t.Error(name, x.what, got.e)
			}
		}
	}
}

// P6.3: the right side, which Normal does not have; its errors come before
// ErrShort.
func TestRightSides(t *testing.T) {
	for _, x := range []struct {
		right []int64
		e     api.Errno
	}{
		{[]int64{api.MaxSize, -api.MaxSize, 0, 1}, api.OK},
		{[]int64{0, api.MaxSize + 1, 0, 0}, api.ErrBad}, {[]int64{0, 0, 0, -api.MaxSize - 1}, api.ErrBad},
		{[]int64{math.MinInt64, 0, 0, 0}, api.ErrBad}, {[]int64{0, 0, math.MaxInt64, 0}, api.ErrBad},
		{nil, api.ErrBad}, {[]int64{}, api.ErrBad}, {make([]int64, 3), api.ErrBad}, {make([]int64, 5), api.ErrBad}, {make([]int64, 500), api.ErrBad},
	} {
		s := plain(4, 2)
		s.right = x.right
		if got := systemCalls()["Least"](s); x.e != api.OK {
			fails(t, "Least", got, x.e)
			s.rows = [][]int64{{0, 0}, {0, 0}, {0, 0}, {0, 0}}
			fails(t, "Least with more than one list", systemCalls()["Least"](s), x.e)
		} else if got.e != api.OK {
			t.Error("Least", x.right, got.e)
		}
	}
}
