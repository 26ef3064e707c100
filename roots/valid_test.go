package roots_test

import (
	"math"
	"math/big"
	"slices"
	"testing"

	"planisphere/api"
	"planisphere/roots"
	"planisphere/wide"
)

// The limits of cells.
const (
	maxAt    = 200
	leastExp = -2000
)

// badCells are cells that are not valid.
func badCells() []api.Cell {
	long := whole(power(32 * maxAt))
	return []api.Cell{
		{Exp: leastExp - 1}, {Exp: api.MaxDeep + 1}, {Exp: math.MinInt}, {Exp: math.MaxInt},
		{At: wide.From(-1), Exp: leastExp - 1}, {At: wide.From(1), Exp: api.MaxDeep + 1},
		{At: long}, {At: api.Wide{Neg: true, Mag: long.Mag}},
		{At: api.Wide{Mag: slices.Repeat([]uint32{1}, api.MaxLimbs+1)}},
		{At: api.Wide{Mag: make([]uint32, maxAt+1)}},
		{At: api.Wide{Neg: true}}, {At: api.Wide{Mag: []uint32{0}}}, {At: api.Wide{Neg: true, Mag: []uint32{5, 0}}},
	}
}

// longCells are valid cells at the limits.
func longCells() []api.Cell {
	longest := plus(power(32*maxAt), -1)
	var list []api.Cell
	for _, exp := range []int{leastExp, 0, api.MaxDeep} {
		for _, at := range []*big.Int{longest, new(big.Int).Neg(longest), big.NewInt(1), big.NewInt(-3)} {
			list = append(list, spot{at, exp}.cell())
		}
	}
	return list
}

// P5.1: Check.
func TestCheck(t *testing.T) {
	for _, c := range append(longCells(), api.Cell{}, api.Cell{Exp: leastExp}, api.Cell{Exp: api.MaxDeep}, api.Cell{At: api.Wide{Mag: []uint32{}}}) {
		if e := roots.Check(c); e != api.OK {
			t.Error("valid", c, e)
		}
	}
	for i, c := range badCells() {
		if e := roots.Check(c); e != api.ErrBad {
			t.Error("not valid", i, e)
		}
	}
}

// outcome is what a call returns, with all its results in one list.
type outcome struct {
	results []any
	e       api.Errno
}

// inputs are arguments of all the functions.
type inputs struct {
	p, q []api.Wide
	a, b api.Frac
	c    api.Cell
	exp  int
}

// ordinary are arguments without an error: of 2x - 6 and its root.
func ordinary() inputs {
	return inputs{
		p: of(-6, 2), q: of(1, 1), a: fraction(big.NewRat(-1, 2)), b: fraction(big.NewRat(10, 3)),
		c: api.Cell{At: wide.From(1), Exp: -1}, exp: 5,
	}
}

// calls are all the functions with a polynomial, by their names. Lists of
// results have an element for each field that has to be 0 with an error.
func calls() map[string]func(in inputs) outcome {
	cell := func(c api.Cell, e api.Errno) outcome { return outcome{[]any{c.Exp, len(c.At.Mag), c.At.Neg}, e} }
	count := func(n int, e api.Errno) outcome { return outcome{[]any{n}, e} }
	return map[string]func(in inputs) outcome{
		"Count": func(in inputs) outcome { return count(roots.Count(in.p, in.a, in.b)) },
		"Isolate": func(in inputs) outcome {
			l, e := roots.Isolate(in.p)
			return count(len(l), e)
		},
		"Has":    func(in inputs) outcome { return count(roots.Has(in.p, in.c)) },
		"Refine": func(in inputs) outcome { return cell(roots.Refine(in.p, in.c, in.exp)) },
		"Interval": func(in inputs) outcome {
			x, e := roots.Interval(in.p, in.c)
			return outcome{[]any{x.Lo, x.Hi}, e}
		},
		"SignAt": func(in inputs) outcome { return count(roots.SignAt(in.p, in.c, in.q)) },
	}
}

// fails checks that calls of some functions, or of all, have an error and no
// results.
func fails(t *testing.T, what string, in inputs, e api.Errno, names ...string) {
	t.Helper()
	for name, call := range calls() {
		if len(names) > 0 && !slices.Contains(names, name) {
			continue
		}
		got := call(in)
		if got.e != e {
			t.Error(what, name, "has the error", got.e, "instead of", e)
		}
		for _, x := range got.results {
			if x != 0 && x != false && x != int64(0) {
				t.Error(what, name, "has the result", got.results)
			}
		}
	}
}

// The functions that want a cell, and those that want one with one root.
func withCell() []string { return []string{"Has", "Refine", "Interval", "SignAt"} }
func withRoot() []string { return []string{"Refine", "Interval", "SignAt"} }

// badPolys are polynomials that are not valid.
func badPolys() [][]api.Wide {
	one, long := wide.From(1), whole(power(32*api.MaxCoef))
	return [][]api.Wide{
		{{}}, {one, {}}, {{}, {}}, slices.Repeat([]api.Wide{one}, api.MaxDegree+2), append(make([]api.Wide, api.MaxDegree+1), one),
		{long}, {one, {Neg: true, Mag: long.Mag}}, {long, one}, {{Neg: true}, one}, {one, {Mag: []uint32{0}}}, {{Mag: []uint32{7, 0}}, one},
	}
}

// badFractions are fractions that are not valid.
func badFractions() []api.Frac {
	one, two := wide.From(1), wide.From(2)
	return []api.Frac{
		{}, {Num: one}, {Den: two}, {Num: two, Den: two}, {Num: one, Den: wide.From(-1)}, {Num: api.Wide{Neg: true}, Den: one},
		{Num: one, Den: api.Wide{Mag: []uint32{1, 0}}}, {Num: whole(power(32 * api.MaxPoint)), Den: two},
	}
}

// longFractions are fractions that are valid, but too long.
func longFractions() []api.Frac {
	long, one := power(32*api.MaxPoint), big.NewInt(1)
	return []api.Frac{
		fraction(new(big.Rat).SetInt(long)), fraction(new(big.Rat).SetFrac(one, long)),
		fraction(new(big.Rat).SetFrac(new(big.Int).Neg(long), plus(long, 1))),
		fraction(new(big.Rat).SetInt(power(32*api.MaxLimbs - 1))), fraction(new(big.Rat).SetFrac(one, power(32*api.MaxLimbs-1))),
	}
}

// P5.1: there is no error for ordinary arguments.
func TestOrdinary(t *testing.T) {
	for name, call := range calls() {
		if got := call(ordinary()); got.e != api.OK {
			t.Error(name, got)
		}
	}
}

// P5.1: the error of the polynomial comes first, whatever the other arguments are.
func TestPolyErrors(t *testing.T) {
	var list []inputs
	for _, c := range append(badCells(), ordinary().c, api.Cell{}) {
		in := ordinary()
		in.c = c
		list = append(list, in)
	}
	for _, f := range slices.Concat(badFractions(), longFractions()) {
		in := ordinary()
		in.a, in.b, in.exp, in.q = f, f, -9999, badPolys()[0]
		list = append(list, in)
	}
	for _, in := range list {
		for _, p := range badPolys() {
			in.p = p
			fails(t, "a bad polynomial", in, api.ErrBad)
		}
		in.p = nil
		fails(t, "the polynomial 0", in, api.ErrArg)
		in.p = []api.Wide{}
		fails(t, "the empty polynomial", in, api.ErrArg)
	}
}

// P5.2: the errors of the fractions of Count, in their order.
func TestCountErrors(t *testing.T) {
	good := ordinary().b
	for _, p := range [][]api.Wide{of(-6, 2), of(1), of(1, 0, 1)} {
		in := ordinary()
		in.p = p
		for _, bad := range badFractions() {
			for _, other := range append(longFractions(), good, bad) {
				in.a, in.b = bad, other
				fails(t, "a bad fraction", in, api.ErrBad, "Count")
				in.a, in.b = other, bad
				fails(t, "a bad fraction", in, api.ErrBad, "Count")
			}
		}
		for _, long := range longFractions() {
			for _, other := range append(longFractions(), good) {
				in.a, in.b = long, other
				fails(t, "a long fraction", in, api.ErrMany, "Count")
				in.a, in.b = other, long
				fails(t, "a long fraction", in, api.ErrMany, "Count")
			}
		}
	}
}

// P5.2 and P5.4: the errors of cells come before all but those of the polynomial.
func TestCellErrors(t *testing.T) {
	in := ordinary()
	for _, p := range [][]api.Wide{of(-6, 2), of(5), of(6, -5, 1)} {
		for _, c := range badCells() {
			in.p, in.c = p, c
			in.exp, in.q = 5, of(1)
			fails(t, "a bad cell", in, api.ErrBad, withCell()...)
			in.exp, in.q = -9999, badPolys()[1]
			fails(t, "a bad cell", in, api.ErrBad, withCell()...)
		}
	}
}

// P5.4: ErrNone unless a cell has just one root, before other errors.
func TestNoRoot(t *testing.T) {
	wideCell, right := api.Cell{Exp: -2}, api.Cell{At: wide.From(1), Exp: -1}
	for _, x := range []struct {
		what string
		p    []api.Wide
		c    api.Cell
	}{
		{"a constant", of(5), wideCell},
		{"no real root", of(1, 0, 1), wideCell},
		{"two roots", of(6, -5, 1), wideCell},
		{"eight roots", of(40320, -109584, 118124, -67284, 22449, -4536, 546, -36, 1), api.Cell{Exp: -3}},
		{"a root beyond", of(-5, 1), wideCell},
		{"a root before", of(1, 1), wideCell},
		{"a root at the lower end", of(-2, 1), right},
		{"a root of order 2 at the lower end", of(4, -4, 1), right},
		{"two roots, one of order 2", of(-12, 16, -7, 1), wideCell},
	} {
		in := ordinary()
		in.p, in.c = x.p, x.c
		fails(t, x.what, in, api.ErrNone, withRoot()...)
		in.exp, in.q = -9999, badPolys()[1]
		fails(t, x.what, in, api.ErrNone, withRoot()...)
	}
	for _, c := range longCells() {
		in := ordinary()
		if in.c = c; len(c.At.Mag) > 1 {
			fails(t, "a cell far away", in, api.ErrNone, withRoot()...)
		}
	}
}

// P5.4: ErrArg of Refine, and ErrBad of SignAt for q.
func TestLastErrors(t *testing.T) {
	in := ordinary()
	for _, exp := range []int{in.c.Exp - 1, api.MaxDeep + 1, -5000, math.MinInt, math.MaxInt} {
		in.exp = exp
		fails(t, "an Exp that is out of range", in, api.ErrArg, "Refine")
	}
	in.c = api.Cell{Exp: leastExp}
	in.exp = leastExp - 1
	fails(t, "the Exp before the least one", in, api.ErrArg, "Refine")
	in = ordinary()
	for _, q := range badPolys() {
		in.q = q
		fails(t, "a bad polynomial q", in, api.ErrBad, "SignAt")
	}
}

// spare returns a number whose limbs have others behind them in memory.
func spare(w api.Wide) api.Wide {
	all := append(slices.Clone(w.Mag), 0xAAAAAAAA, 0xBBBBBBBB, 0xCCCCCCCC)
	return api.Wide{Neg: w.Neg, Mag: all[:len(w.Mag)]}
}

// sameSpare reports whether a number and what is behind it are unchanged.
func sameSpare(w, before api.Wide) bool {
	fresh := spare(before)
	n := len(fresh.Mag)
	return w.Neg == before.Neg && len(w.Mag) == n && slices.Equal(w.Mag[:n+3], fresh.Mag[:n+3])
}

// guarded returns the numbers of a polynomial with others behind them.
func guarded(p []api.Wide) []api.Wide {
	var all []api.Wide
	for _, w := range append(slices.Clone(p), wide.From(77), wide.From(-78)) {
		all = append(all, spare(w))
	}
	return all[:len(p)]
}

// sameGuarded reports whether a polynomial and what is behind it are unchanged.
func sameGuarded(p, before []api.Wide) bool {
	fresh := guarded(before)
	n := len(fresh) + 2
	return len(p) == len(fresh) && slices.EqualFunc(p[:n], fresh[:n], func(w, f api.Wide) bool { return sameSpare(w, api.Wide{Neg: f.Neg, Mag: f.Mag}) })
}

// R2: arguments are not modified.
func TestArguments(t *testing.T) {
	for _, k := range knowns(11, 60) {
		if len(k.fractions) == 0 {
			continue
		}
		x := k.fractions[0]
		before := inputs{
			p: k.p.wides(), q: of(-3, 0, 5), a: fraction(x), b: fraction(new(big.Rat).Add(x, big.NewRat(1, 3))),
			c: spotAt(x, 300).cell(), exp: 400,
		}
		for name, call := range calls() {
			in := inputs{
				p: guarded(before.p), q: guarded(before.q), a: api.Frac{Num: spare(before.a.Num), Den: spare(before.a.Den)},
				b: api.Frac{Num: spare(before.b.Num), Den: spare(before.b.Den)}, c: api.Cell{At: spare(before.c.At), Exp: before.c.Exp}, exp: 400,
			}
			got := call(in)
			ok := sameGuarded(in.p, before.p) && sameGuarded(in.q, before.q) && sameSpare(in.c.At, before.c.At) &&
				sameSpare(in.a.Num, before.a.Num) && sameSpare(in.a.Den, before.a.Den) && sameSpare(in.b.Num, before.b.Num) && sameSpare(in.b.Den, before.b.Den)
			if !ok || got.e != api.OK && got.e != api.ErrRange {
				t.Error(name, k.p, got.e, "an argument has changed")
			}
		}
	}
}

// scribble overwrites all the memory of a number.
func scribble(w api.Wide) {
	all := w.Mag[:cap(w.Mag)]
	for i := range all {
		all[i] = 0x55555555
	}
}

// R2: the cells of a result share no memory with each other, with those of
// another result, or with the arguments.
func TestResults(t *testing.T) {
	for _, p := range append(randoms(12, 30), knowns(13, 30)[11].p) {
		list, again := isolated(t, p), isolated(t, p)
		for i, c := range list {
			for _, exp := range []int{c.Exp, c.Exp + 3} {
				arg := api.Cell{At: spare(c.At), Exp: c.Exp}
				l := guarded(p.wides())
				r, e := roots.Refine(l, arg, exp)
				scribble(r.At)
				if e != api.OK || !sameSpare(arg.At, c.At) || !sameGuarded(l, p.wides()) {
					t.Error("Refine shares memory", p, c, e)
				}
			}
			scribble(c.At)
			for j := i + 1; j < len(list); j++ {
				if !sameCell(list[j], again[j]) {
					t.Error("cells share memory", p, i, j)
				}
			}
		}
	}
}

// R3: nil lists and empty ones are the same.
func TestEmpty(t *testing.T) {
	none := []uint32{}
	zero := api.Frac{Num: api.Wide{Mag: none}, Den: wide.From(1)}
	p, other := of(0, -2, 1), []api.Wide{{Mag: none}, wide.From(-2), wide.From(1)}
	for _, exp := range []int{0, -1} {
		b := fraction(big.NewRat(9, 1))
		x := inputs{p: p, q: nil, a: fraction(new(big.Rat)), b: b, c: api.Cell{Exp: exp}, exp: exp + 2}
		y := inputs{p: other, q: []api.Wide{}, a: zero, b: b, c: api.Cell{At: api.Wide{Mag: none}, Exp: exp}, exp: exp + 2}
		for name, call := range calls() {
			if first, second := call(x), call(y); first.e != second.e || !slices.Equal(first.results, second.results) {
				t.Error(name, first, second)
			}
		}
	}
}
