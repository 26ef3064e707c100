package poly_test

import (
	"math/big"
	"slices"
	"testing"

	"planisphere/api"
	"planisphere/poly"
	"planisphere/wide"
)

// bad are polynomials that are not valid.
func bad() [][]api.Wide {
	long := whole(new(big.Int).Add(most(), big.NewInt(1)))
	one := wide.From(1)
	return [][]api.Wide{
		{{}},
		{{Mag: []uint32{}}},
		{one, {}},
		{{}, {}},
		{one, one, one, one, one, one, one, one, {}},
		slices.Repeat([]api.Wide{one}, api.MaxDegree+2),
		append(make([]api.Wide, api.MaxDegree+1), one),
		slices.Repeat([]api.Wide{{}}, 20),
		{long},
		{long, one},
		{one, {Neg: true, Mag: long.Mag}, one},
		{one, one, long},
		{{Mag: make([]uint32, api.MaxCoef+1)}, one},
		{{Mag: slices.Repeat([]uint32{1}, api.MaxLimbs+1)}, one},
		{{Neg: true}, one},
		{one, {Neg: true}},
		{{Mag: []uint32{0}}, one},
		{one, {Mag: []uint32{0}}},
		{one, {Mag: []uint32{7, 0}}, one},
		{one, one, {Neg: true, Mag: []uint32{7, 0}}},
	}
}

// P4.1: Check.
func TestCheck(t *testing.T) {
	for _, p := range samples(11, 30) {
		if e := poly.Check(p.wides()); e != api.OK {
			t.Error("valid", p, e)
		}
	}
	for i, p := range bad() {
		if e := poly.Check(p); e != api.ErrBad {
			t.Error("not valid", i, e)
		}
	}
}

// P4.1: all functions return ErrBad for a polynomial that is not valid,
// whatever the other one is.
func TestBadArguments(t *testing.T) {
	others := [][]api.Wide{nil, of(5), of(-1, 0, 1), extremes()[0].wides()}
	for _, p := range bad() {
		for name, call := range unaries() {
			got, e := call(p)
			fails(t, name, got, e, api.ErrBad)
		}
		for name, call := range binaries() {
			for _, q := range append(others, p) {
				got, e := call(p, q)
				fails(t, name+" of a bad polynomial", got, e, api.ErrBad)
				got, e = call(q, p)
				fails(t, name+" with a bad polynomial", got, e, api.ErrBad)
			}
		}
	}
}

// P4.1 and P4.3: the errors of Eval and Sign, in their order.
func TestPoints(t *testing.T) {
	long := new(big.Int).Lsh(big.NewInt(1), 32*api.MaxPoint)
	below := new(big.Int).Sub(long, big.NewInt(1))
	one := wide.From(1)
	for _, x := range []struct {
		what string
		at   api.Frac
		e    api.Errno
	}{
		{"the longest numbers", api.Frac{Num: whole(new(big.Int).Sub(below, big.NewInt(1))), Den: whole(below)}, api.OK},
		{"a long negative number", api.Frac{Num: whole(new(big.Int).Neg(below)), Den: one}, api.OK},
		{"a number that is too long", api.Frac{Num: whole(long), Den: one}, api.ErrMany},
		{"a negative number that is too long", api.Frac{Num: whole(new(big.Int).Neg(long)), Den: one}, api.ErrMany},
		{"a divisor that is too long", api.Frac{Num: one, Den: whole(long)}, api.ErrMany},
		{"both too long", api.Frac{Num: whole(new(big.Int).Add(long, big.NewInt(1))), Den: whole(long)}, api.ErrMany},
		{"no number", api.Frac{}, api.ErrBad},
		{"a fraction that is not in lowest terms", api.Frac{Num: wide.From(2), Den: wide.From(4)}, api.ErrBad},
		{"a negative divisor", api.Frac{Num: one, Den: wide.From(-2)}, api.ErrBad},
		{"a number that is not valid", api.Frac{Num: api.Wide{Neg: true}, Den: one}, api.ErrBad},
		{"a long fraction that is not in lowest terms", api.Frac{Num: whole(long), Den: whole(long)}, api.ErrBad},
		{"a long number that is not valid", api.Frac{Num: api.Wide{Mag: make([]uint32, 70)}, Den: one}, api.ErrBad},
		{"a number that is much too long", api.Frac{Num: api.Wide{Mag: slices.Repeat([]uint32{1}, api.MaxLimbs+1)}, Den: one}, api.ErrBad},
	} {
		for _, p := range [][]api.Wide{nil, of(7), of(1, 2, 1), extremes()[0].wides()} {
			for name, call := range map[string]unary{"Eval": valueAt(x.at), "Sign": signAt(x.at)} {
				if got, e := call(p); x.e != api.OK {
					fails(t, name+" at "+x.what, got, e, x.e)
				} else if e != api.OK {
					t.Error(name, "at", x.what, "has the error", e)
				}
			}
		}
		for _, p := range bad() {
			for name, call := range map[string]unary{"Eval": valueAt(x.at), "Sign": signAt(x.at)} {
				got, e := call(p)
				fails(t, name+" of a bad polynomial at "+x.what, got, e, api.ErrBad)
			}
		}
	}
}

// spare returns a number whose limbs have others behind them in memory.
func spare(w api.Wide) api.Wide {
	all := append(slices.Clone(w.Mag), 0xAAAAAAAA, 0xBBBBBBBB, 0xCCCCCCCC)
	return api.Wide{Neg: w.Neg, Mag: all[:len(w.Mag)]}
}

// guard returns a polynomial that has other coefficients behind it, and other
// limbs behind those of its coefficients.
func guard(p exact) []api.Wide {
	var all []api.Wide
	for _, w := range append(p.wides(), wide.From(77), wide.From(-78)) {
		all = append(all, spare(w))
	}
	return all[:len(p)]
}

// unchanged reports whether a guarded polynomial still is p, with the same
// memory behind it.
func unchanged(l []api.Wide, p exact) bool {
	fresh := guard(p)
	end := len(p) + 2
	return slices.EqualFunc(l[:end], fresh[:end], func(a, b api.Wide) bool {
		n := len(b.Mag)
		return len(a.Mag) == n && sameWide(a, b) && slices.Equal(a.Mag[:n+3], b.Mag[:n+3])
	})
}

// scribble overwrites all the memory of a number.
func scribble(w api.Wide) {
	all := w.Mag[:cap(w.Mag)]
	for i := range all {
		all[i] = 0x55555555
	}
}

// copied is a copy of a result.
func copied(p []api.Wide) []api.Wide { return numbers(p).wides() }

// unshared checks that each number of a result, and the result itself, can be
// overwritten without a change of the others or of the arguments.
func unshared(t *testing.T, what string, call binary, p, q exact) {
	t.Helper()
	x, y := guard(p), guard(q)
	first, _ := call(x, y)
	got, _ := call(x, y)
	before := copied(first)
	for i, w := range got {
		scribble(w)
		if !same(got[i+1:], before[i+1:]) {
			t.Error(what, p, q, "numbers of the result share memory", i)
		}
	}
	for i := range got[:cap(got)] {
		got[:cap(got)][i] = wide.From(99)
	}
	if !unchanged(x, p) || !unchanged(y, q) {
		t.Error(what, p, q, "an argument has changed")
	}
	again, _ := call(x, y)
	if !same(first, before) || !same(again, before) {
		t.Error(what, p, q, "another result has changed")
	}
}

// R2: arguments are not modified, and results share no memory.
func TestMemory(t *testing.T) {
	calls := binaries()
	for name, call := range unaries() {
		calls[name] = func(p, _ []api.Wide) ([]api.Wide, api.Errno) { return call(p) }
	}
	list := samples(21, 4)
	for i, p := range list {
		for _, q := range []exact{list[len(list)-1-i], p, ints(-1, 0, 1), ints(7, -5)} {
			for name, call := range calls {
				unshared(t, name, call, p, q)
			}
		}
	}
}

// R2: the same polynomial as both arguments.
func TestTwice(t *testing.T) {
	for _, p := range samples(22, 4) {
		for name, call := range binaries() {
			l := guard(p)
			got, e := call(l, l)
			other, f := call(p.wides(), p.wides())
			if e != f || !same(got, other) || !unchanged(l, p) {
				t.Error(name, p, got, e, other, f)
			}
		}
	}
}

// R3: a nil list and an empty one are the same polynomial, and the same number.
func TestEmpty(t *testing.T) {
	some := of(6, 0, -4)
	other := []api.Wide{some[0], {Mag: []uint32{}}, some[2]}
	for name, call := range unaries() {
		for _, pair := range [][2][]api.Wide{{nil, {}}, {some, other}} {
			x, e := call(pair[0])
			y, f := call(pair[1])
			if e != api.OK || f != api.OK || !same(x, y) {
				t.Error(name, x, e, y, f)
			}
		}
	}
	for name, call := range binaries() {
		x, e := call(nil, some)
		y, f := call([]api.Wide{}, other)
		if e != api.OK || f != api.OK || !same(x, y) {
			t.Error(name, x, e, y, f)
		}
	}
}
