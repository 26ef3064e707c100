package wide_test

import (
	"math"
	"slices"
	"strings"
	"testing"

	"planisphere/api"
	"planisphere/wide"
)

// The calls of functions of one number, and of two, with ordinary other
// arguments, as those that return numbers.
type unary func(w api.Wide) ([]api.Wide, api.Errno)
type binary func(a, b api.Wide) ([]api.Wide, api.Errno)

func list1(w api.Wide, e api.Errno) ([]api.Wide, api.Errno) { return []api.Wide{w}, e }

func listInt(n int, e api.Errno) ([]api.Wide, api.Errno) {
	return []api.Wide{wide.From(int64(n))}, e
}

func unaries() map[string]unary {
	return map[string]unary{
		"Int": func(w api.Wide) ([]api.Wide, api.Errno) {
			n, e := wide.Int(w)
			return list1(wide.From(n), e)
		},
		"Neg":   func(w api.Wide) ([]api.Wide, api.Errno) { return list1(wide.Neg(w)) },
		"Abs":   func(w api.Wide) ([]api.Wide, api.Errno) { return list1(wide.Abs(w)) },
		"Sign":  func(w api.Wide) ([]api.Wide, api.Errno) { return listInt(wide.Sign(w)) },
		"Bits":  func(w api.Wide) ([]api.Wide, api.Errno) { return listInt(wide.Bits(w)) },
		"Sqrt":  func(w api.Wide) ([]api.Wide, api.Errno) { return list1(wide.Sqrt(w)) },
		"up 0":  func(w api.Wide) ([]api.Wide, api.Errno) { return list1(wide.Shift(w, 0)) },
		"up":    func(w api.Wide) ([]api.Wide, api.Errno) { return list1(wide.Shift(w, 64)) },
		"down":  func(w api.Wide) ([]api.Wide, api.Errno) { return list1(wide.Shift(w, -7)) },
		"Pow 0": func(w api.Wide) ([]api.Wide, api.Errno) { return list1(wide.Pow(w, 0)) },
		"Pow 1": func(w api.Wide) ([]api.Wide, api.Errno) { return list1(wide.Pow(w, 1)) },
		"Pow 3": func(w api.Wide) ([]api.Wide, api.Errno) { return list1(wide.Pow(w, 3)) },
		"Text": func(w api.Wide) ([]api.Wide, api.Errno) {
			s, e := wide.Text(w)
			return []api.Wide{wide.From(int64(len(s)))}, e
		},
	}
}

func binaries() map[string]binary {
	return map[string]binary{
		"Add": func(a, b api.Wide) ([]api.Wide, api.Errno) { return list1(wide.Add(a, b)) },
		"Sub": func(a, b api.Wide) ([]api.Wide, api.Errno) { return list1(wide.Sub(a, b)) },
		"Mul": func(a, b api.Wide) ([]api.Wide, api.Errno) { return list1(wide.Mul(a, b)) },
		"DivMod": func(a, b api.Wide) ([]api.Wide, api.Errno) {
			q, r, e := wide.DivMod(a, b)
			return []api.Wide{q, r}, e
		},
		"Cmp": func(a, b api.Wide) ([]api.Wide, api.Errno) { return listInt(wide.Cmp(a, b)) },
		"Gcd": func(a, b api.Wide) ([]api.Wide, api.Errno) { return list1(wide.Gcd(a, b)) },
	}
}

// P1.1: Check.
func TestCheck(t *testing.T) {
	valid := []api.Wide{
		{}, {Mag: []uint32{}}, {Mag: []uint32{1}}, {Neg: true, Mag: []uint32{1}},
		{Mag: []uint32{0, 0, 1}}, greatest(), least(), power(131071),
	}
	for _, w := range valid {
		if e := wide.Check(w); e != api.OK {
			t.Error("valid", brief(w), e)
		}
	}
	for i, w := range bad() {
		if e := wide.Check(w); e != api.ErrBad {
			t.Error("not valid", i, e)
		}
	}
}

// refused checks that a call returned ErrBad and nothing else.
func refused(t *testing.T, name string, got []api.Wide, e api.Errno) {
	t.Helper()
	for _, w := range got {
		fails(t, name, w, e, api.ErrBad)
	}
}

// P1.1: all functions return ErrBad for a number that is not valid.
func TestBadArguments(t *testing.T) {
	for _, w := range bad() {
		for name, call := range unaries() {
			got, e := call(w)
			refused(t, name, got, e)
		}
		for name, call := range binaries() {
			for _, other := range []api.Wide{{}, wide.From(-3), greatest(), w} {
				got, e := call(w, other)
				refused(t, name+" of a bad number", got, e)
				got, e = call(other, w)
				refused(t, name+" with a bad number", got, e)
			}
		}
	}
}

// P1.1: ErrBad comes before any other error.
func TestBadFirst(t *testing.T) {
	for _, w := range bad() {
		for _, k := range []int{math.MinInt, -131073, -1, 1001, 131073, math.MaxInt} {
			got, e := wide.Shift(w, k)
			fails(t, "Shift", got, e, api.ErrBad)
			got, e = wide.Pow(w, k)
			fails(t, "Pow", got, e, api.ErrBad)
		}
	}
}

// P1.1: ErrRange if a result has no valid form, and the results next to them.
func TestRange(t *testing.T) {
	one, minus := wide.From(1), wide.From(-1)
	ranged := func(what string, got api.Wide, e api.Errno) {
		t.Helper()
		fails(t, what, got, e, api.ErrRange)
	}
	got, e := wide.Add(greatest(), one)
	ranged("greatest + 1", got, e)
	got, e = wide.Add(least(), minus)
	ranged("least - 1", got, e)
	got, e = wide.Sub(greatest(), minus)
	ranged("greatest - -1", got, e)
	got, e = wide.Sub(least(), one)
	ranged("least - 1", got, e)
	got, e = wide.Mul(power(65536), power(65536))
	ranged("2^65536 * 2^65536", got, e)
	got, e = wide.Mul(greatest(), least())
	ranged("greatest * least", got, e)
	got, e = wide.Mul(greatest(), wide.From(2))
	ranged("greatest * 2", got, e)
	got, e = wide.Shift(one, 131072)
	ranged("2^131072", got, e)
	got, e = wide.Shift(least(), 1)
	ranged("least * 2", got, e)
	got, e = wide.Shift(greatest(), 131072)
	ranged("greatest * 2^131072", got, e)
	got, e = wide.Pow(power(132), 1000)
	ranged("2^132000", got, e)
	got, e = wide.Pow(least(), 2)
	ranged("least^2", got, e)
	got, e = wide.Pow(greatest(), 1000)
	ranged("greatest^1000", got, e)
	got, e = wide.Parse("1" + strings.Repeat("0", 39457))
	ranged("10^39457", got, e)
	got, e = wide.Parse("-9" + strings.Repeat("0", 1<<20))
	ranged("-9 * 10^1048576", got, e)
}

// P1.1: the greatest results that have a valid form.
func TestAlmostRange(t *testing.T) {
	below := toBig(greatest())
	got, e := wide.Add(greatest(), api.Wide{})
	want(t, "greatest + 0", got, e, below)
	got, e = wide.Sub(greatest(), greatest())
	want(t, "greatest - greatest", got, e, toBig(api.Wide{}))
	got, e = wide.Mul(power(65535), power(65536))
	want(t, "2^131071", got, e, toBig(power(131071)))
	got, e = wide.Mul(least(), wide.From(-1))
	want(t, "-least", got, e, below)
	got, e = wide.Shift(wide.From(-1), 131071)
	want(t, "-2^131071", got, e, toBig(api.Wide{Neg: true, Mag: power(131071).Mag}))
	got, e = wide.Pow(power(131), 1000)
	want(t, "2^131000", got, e, toBig(power(131000)))
	got, e = wide.Pow(least(), 1)
	want(t, "least^1", got, e, toBig(least()))
	got, _, e = wide.DivMod(least(), wide.From(1))
	want(t, "least / 1", got, e, toBig(least()))
	got, _, e = wide.DivMod(least(), wide.From(-1))
	want(t, "least / -1", got, e, below)
	got, e = wide.Mul(greatest(), api.Wide{})
	want(t, "greatest * 0", got, e, toBig(api.Wide{}))
}

// spare returns a number whose limbs have others behind them in memory.
func spare(w api.Wide) (api.Wide, []uint32) {
	all := append(slices.Clone(w.Mag), 0xAAAAAAAA, 0xBBBBBBBB, 0xCCCCCCCC)
	return api.Wide{Neg: w.Neg, Mag: all[:len(w.Mag)]}, all
}

// scribble overwrites all the memory of results.
func scribble(w api.Wide) {
	all := w.Mag[:cap(w.Mag)]
	for i := range all {
		all[i] = 0x55555555
	}
}

// unshared checks that no result of a call shares memory with its arguments
// or with another result.
func unshared(t *testing.T, what string, call func() ([]api.Wide, api.Errno), args ...[]uint32) {
	t.Helper()
	var old [][]uint32
	for _, all := range args {
		old = append(old, slices.Clone(all))
	}
	results, _ := call()
	for i := range results {
		got, _ := call()
		scribble(got[i])
		for k := range got {
			if k != i && !equal(got[k], results[k]) {
				t.Errorf("%s: its results share memory", what)
			}
		}
		if !slices.EqualFunc(args, old, slices.Equal) {
			t.Fatalf("%s: an argument has changed", what)
		}
	}
}

// R2: arguments are not modified, and results share no memory.
func TestMemory(t *testing.T) {
	eachPair(12, 9, func(a, b api.Wide) {
		for name, call := range binaries() {
			x, allX := spare(a)
			y, allY := spare(b)
			do := func() ([]api.Wide, api.Errno) { return call(x, y) }
			unshared(t, name+" of "+brief(a)+" and "+brief(b), do, allX, allY)
		}
	})
	each(30, 9, func(a api.Wide) {
		for name, call := range unaries() {
			x, all := spare(a)
			do := func() ([]api.Wide, api.Errno) { return call(x) }
			unshared(t, name+" of "+brief(a), do, all)
		}
	})
}

// R3: a nil list and an empty one are the same number.
func TestEmpty(t *testing.T) {
	empty := api.Wide{Mag: []uint32{}}
	for name, call := range unaries() {
		a, e := call(api.Wide{})
		b, f := call(empty)
		if e != f || !equal(a[0], b[0]) {
			t.Error(name, a, e, b, f)
		}
	}
	for name, call := range binaries() {
		for _, w := range []api.Wide{{}, wide.From(5), wide.From(-5)} {
			a, e := call(w, api.Wide{})
			b, f := call(w, empty)
			if e != f || !slices.EqualFunc(a, b, equal) {
				t.Error(name, a, e, b, f)
			}
		}
	}
}
