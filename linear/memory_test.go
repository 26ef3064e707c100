package linear_test

import (
	"slices"
	"testing"

	"planisphere/api"
)

// spare is a number whose limbs have others behind them in memory.
func spare(w api.Wide) api.Wide {
	all := append(slices.Clone(w.Mag), 0xAAAAAAAA, 0xBBBBBBBB)
	return api.Wide{Neg: w.Neg, Mag: all[:len(w.Mag)]}
}

// guard is a list with other elements behind it, and other limbs behind those
// of its elements.
func guard(l []api.Frac) []api.Frac {
	var all []api.Frac
	for _, f := range append(slices.Clone(l), of(77, -78)...) {
		all = append(all, api.Frac{Num: spare(f.Num), Den: spare(f.Den)})
	}
	return all[:len(l)]
}

// guardRows is a matrix with another row behind it, and guarded rows.
func guardRows(rows [][]api.Frac) [][]api.Frac {
	var all [][]api.Frac
	for _, row := range append(slices.Clone(rows), of(5, 6)) {
		all = append(all, guard(row))
	}
	return all[:len(rows)]
}

// unchanged reports whether a guarded list is as it was, with the memory
// behind it.
func unchanged(l, was []api.Frac) bool {
	end := len(was) + 2
	return len(l) == len(was) && slices.EqualFunc(l[:end], guard(was)[:end], func(a, b api.Frac) bool {
		return sameFrac(a, b) && sameBehind(a.Num, b.Num) && sameBehind(a.Den, b.Den)
	})
}

func sameBehind(a, b api.Wide) bool {
	n := len(b.Mag)
	return slices.Equal(a.Mag[n:n+2], b.Mag[n:n+2])
}

// unchangedRows is the same for a matrix.
func unchangedRows(rows, was [][]api.Frac) bool {
	end := len(was) + 1
	return len(rows) == len(was) && slices.EqualFunc(rows[:end], append(slices.Clone(was), of(5, 6)), unchanged)
}

// scribble overwrites all the memory of a fraction.
func scribble(f *api.Frac) {
	for _, limbs := range [][]uint32{f.Num.Mag, f.Den.Mag} {
		all := limbs[:cap(limbs)]
		for i := range all {
			all[i] = 0x55555555
		}
	}
	*f = api.Frac{}
}

// unshared overwrites a result, a part after another, and checks that no other
// part changes.
func unshared(t *testing.T, what string, lists [][]api.Frac) {
	t.Helper()
	var before [][]api.Frac
	for _, l := range lists {
		before = append(before, fracs(values(l)))
	}
	for i, l := range lists {
		for k := range l {
			scribble(&l[k])
			if !same(l[k+1:], before[i][k+1:]) || !slices.EqualFunc(lists[i+1:], before[i+1:], same) {
				t.Error(what, "parts of the result share memory", i, k)
			}
		}
		all := l[:cap(l)]
		for k := range all {
			all[k] = of(99)[0]
		}
		if !slices.EqualFunc(lists[i+1:], before[i+1:], same) {
			t.Error(what, "lists of the result share memory", i)
		}
	}
}

// R2: matrices are not modified, and results share no memory.
func TestMemory(t *testing.T) {
	for _, m := range squares(51, 20) {
		for name, call := range matrixCalls() {
			b := m.times(m[0])
			if len(m) > 4 {
				b = m[0]
			}
			rows, side := guardRows(m.fracs()), guard(fracs(b))
			first, got := call(rows, side), call(rows, side)
			unshared(t, name, got.lists)
			if !unchangedRows(rows, m.fracs()) || !unchanged(side, fracs(b)) {
				t.Error(name, brief(m), "an argument has changed")
			}
			again := call(rows, side)
			if first.e != again.e || first.count != again.count || !slices.EqualFunc(first.lists, again.lists, same) {
				t.Error(name, brief(m), "another result has changed")
			}
		}
	}
}

// guardInts is a list with other numbers behind it.
func guardInts(l []int64) []int64 { return append(slices.Clone(l), 7, 8)[:len(l)] }

// unchangedInts reports whether a guarded list is as it was.
func unchangedInts(l, was []int64) bool {
	return len(l) == len(was) && slices.Equal(l[:len(was)+2], append(slices.Clone(was), 7, 8))
}

// R2: systems are not modified, and results share no memory.
func TestSystemMemory(t *testing.T) {
	for _, s := range systems(52) {
		for name, call := range systemCalls() {
			guarded := system{right: guardInts(s.right), weights: guardInts(s.weights)}
			for _, row := range s.rows {
				guarded.rows = append(guarded.rows, guardInts(row))
			}
			first, got := call(guarded), call(guarded)
			unshared(t, name, got.lists)
			if !slices.EqualFunc(guarded.rows, s.rows, unchangedInts) || !unchangedInts(guarded.right, s.right) || !unchangedInts(guarded.weights, s.weights) {
				t.Error(name, brief(s), "an argument has changed")
			}
			if again := call(guarded); first.e != again.e || !slices.EqualFunc(first.lists, again.lists, same) {
				t.Error(name, brief(s), "another result has changed")
			}
		}
	}
}

// R2 and R3: the same list as several rows, and lists of limbs that are nil or
// empty.
func TestSameRows(t *testing.T) {
	row := guard(of(1, 0, -2))
	empty := of(1, 0, -2)
	empty[1].Num.Mag = []uint32{}
	for name, call := range matrixCalls() {
		shared := call([][]api.Frac{row, row, row}, row)
		apart := call([][]api.Frac{of(1, 0, -2), of(1, 0, -2), of(1, 0, -2)}, of(1, 0, -2))
		other := call([][]api.Frac{empty, empty, empty}, empty)
		for _, got := range []outcome{shared, other} {
			if got.e != apart.e || got.count != apart.count || !slices.EqualFunc(got.lists, apart.lists, same) {
				t.Error(name, got, apart)
			}
		}
	}
	if !unchanged(row, of(1, 0, -2)) {
		t.Error("the row has changed")
	}
}
