package frac_test

import (
	"math"
	"math/big"
	"slices"
	"strconv"
	"testing"

	"planisphere/api"
	"planisphere/frac"
	"planisphere/wide"
)

// P2.2: Of and Make.
func TestOf(t *testing.T) {
	most, least := int64(math.MaxInt64), int64(math.MinInt64)
	numbers := []int64{0, 1, -1, 2, -2, 3, -4, 6, -6, 12, 30, -35, 1 << 32, -1 << 40, most, least, least + 1, most - 1}
	for _, num := range numbers {
		for _, den := range numbers {
			a, e := frac.Of(num, den)
			b, f := frac.Make(wide.From(num), wide.From(den))
			if den == 0 {
				fails(t, "Of by 0", a, e, api.ErrZero)
				fails(t, "Make by 0", b, f, api.ErrZero)
				continue
			}
			x := valid(new(big.Rat).SetFrac(big.NewInt(num), big.NewInt(den)))
			want(t, "Of", a, e, x)
			want(t, "Make", b, f, x)
		}
	}
}

// P2.2: Make with long numbers.
func TestMake(t *testing.T) {
	eachPair(22, 25, 400, func(a, b api.Frac) {
		if len(b.Num.Mag) > 0 {
			got, e := frac.Make(a.Num, b.Num)
			want(t, "Make", got, e, valid(new(big.Rat).SetFrac(number(a.Num), number(b.Num))))
		}
	})
	got, e := frac.Make(greatest(), negative(greatest()))
	want(t, "greatest by its negative", got, e, of(-1, 1))
	got, e = frac.Make(greatest(), wide.From(-1))
	want(t, "greatest by -1", got, e, api.Frac{Num: negative(greatest()), Den: wide.From(1)})
	got, e = frac.Make(wide.From(2), negative(power(131071)))
	want(t, "2 by the least power", got, e, api.Frac{Num: wide.From(-1), Den: power(131070)})
}

// P2.2: Make with numbers that are not valid.
func TestMakeBad(t *testing.T) {
	for _, w := range []api.Wide{{Neg: true}, {Mag: []uint32{0}}, {Mag: []uint32{4, 0}}, {Mag: append(greatest().Mag, 1)}} {
		for _, other := range []api.Wide{{}, wide.From(1), wide.From(-6), greatest(), w} {
			got, e := frac.Make(w, other)
			fails(t, "Make of a bad number", got, e, api.ErrBad)
			got, e = frac.Make(other, w)
			fails(t, "Make by a bad number", got, e, api.ErrBad)
		}
	}
}

// P2.2: Add, Sub, Mul, Div and Neg; P2.3: Cmp.
func TestReckoning(t *testing.T) {
	eachPair(23, 40, 500, func(a, b api.Frac) {
		x, y := value(a), value(b)
		got, e := frac.Add(a, b)
		want(t, "Add", got, e, valid(new(big.Rat).Add(x, y)))
		got, e = frac.Sub(a, b)
		want(t, "Sub", got, e, valid(new(big.Rat).Sub(x, y)))
		got, e = frac.Mul(a, b)
		want(t, "Mul", got, e, valid(new(big.Rat).Mul(x, y)))
		got, e = frac.Neg(a)
		want(t, "Neg", got, e, valid(new(big.Rat).Neg(x)))
		c, e := frac.Cmp(a, b)
		if e != api.OK || c != x.Cmp(y) {
			t.Error("Cmp", brief(a), brief(b), c, e)
		}
		got, e = frac.Div(a, b)
		if y.Sign() == 0 {
			fails(t, "Div by 0", got, e, api.ErrZero)
		} else {
			want(t, "Div", got, e, valid(new(big.Rat).Quo(x, y)))
		}
	})
}

// P2.2 and P2.3: Div by 0, and Neg of the greatest fractions.
func TestExtremes(t *testing.T) {
	for _, f := range []api.Frac{zero(), of(-1, 2), huge(), tiny()} {
		got, e := frac.Div(f, zero())
		fails(t, "Div by 0", got, e, api.ErrZero)
		got, e = frac.Neg(f)
		if len(f.Num.Mag) > 0 {
			want(t, "Neg", got, e, minus(f))
		}
	}
}

// P2.2 and P2.3: ErrRange if a number that is made first has no valid form,
// even if the result has one.
func TestRange(t *testing.T) {
	half, three := of(1, 2), of(3, 1)
	third := api.Frac{Num: power(131071), Den: wide.From(3)}
	thrice := api.Frac{Num: wide.From(3), Den: power(131071)}
	for i, x := range []struct {
		call string
		a, b api.Frac
	}{
		{"Add", huge(), huge()},
		{"Add", huge(), half}, {"Add", half, huge()},
		{"Add", minus(huge()), half}, {"Add", minus(half), huge()},
		{"Add", tiny(), tiny()}, {"Add", tiny(), minus(tiny())}, {"Add", tiny(), half},
		{"Add", huge(), tiny()},
		{"Sub", huge(), minus(huge())},
		{"Sub", huge(), half}, {"Sub", half, huge()},
		{"Sub", tiny(), tiny()}, {"Sub", minus(huge()), huge()},
		{"Mul", huge(), of(2, 1)}, {"Mul", three, huge()},
		{"Mul", tiny(), half}, {"Mul", third, thrice}, {"Mul", thrice, huge()},
		{"Div", huge(), half}, {"Div", half, huge()}, {"Div", minus(half), minus(huge())},
		{"Div", three, tiny()}, {"Div", tiny(), of(2, 3)}, {"Div", third, third},
		{"Cmp", huge(), half}, {"Cmp", half, huge()}, {"Cmp", minus(huge()), half},
		{"Cmp", minus(half), huge()}, {"Cmp", thrice, huge()}, {"Cmp", huge(), thrice}, {"Cmp", huge(), tiny()},
	} {
		got, e := binaries()[x.call](x.a, x.b)
		fails(t, x.call+" "+strconv.Itoa(i), got, e, api.ErrRange)
	}
}

// P2.2 and P2.3: results next to those that are out of range.
func TestAlmostRange(t *testing.T) {
	huge, tiny, one, half := huge(), tiny(), of(1, 1), of(1, 2)
	fourth := api.Frac{Num: power(131070), Den: wide.From(1)}
	eighth := api.Frac{Num: wide.From(1), Den: power(131070)}
	for i, x := range []struct {
		call string
		a, b api.Frac
		want api.Frac
	}{
		{"Add", huge, minus(huge), zero()},
		{"Add", huge, zero(), huge}, {"Add", zero(), tiny, tiny},
		{"Add", fourth, fourth, huge},
		{"Sub", huge, huge, zero()}, {"Sub", zero(), tiny, minus(tiny)},
		{"Mul", huge, tiny, one}, {"Mul", minus(tiny), huge, minus(one)},
		{"Mul", fourth, of(2, 1), huge}, {"Mul", eighth, half, tiny},
		{"Mul", huge, zero(), zero()}, {"Mul", huge, minus(one), minus(huge)},
		{"Div", huge, huge, one}, {"Div", tiny, tiny, one}, {"Div", tiny, minus(tiny), minus(one)},
		{"Div", fourth, half, huge}, {"Div", half, fourth, tiny}, {"Div", zero(), huge, zero()},
		{"Cmp", huge, huge, api.Frac{}}, {"Cmp", tiny, tiny, api.Frac{}},
		{"Cmp", fourth, half, api.Frac{Num: wide.From(1)}},
		{"Cmp", half, fourth, api.Frac{Num: wide.From(-1)}},
		{"Cmp", minus(fourth), half, api.Frac{Num: wide.From(-1)}},
	} {
		got, e := binaries()[x.call](x.a, x.b)
		want(t, x.call+" "+strconv.Itoa(i), got, e, x.want)
	}
}

// P2.3: Sum.
func TestSum(t *testing.T) {
	list := samples(24, 70, 60)
	for n := range list {
		x := new(big.Rat)
		for _, f := range list[:n] {
			x.Add(x, value(f))
		}
		got, e := frac.Sum(list[:n])
		want(t, "Sum", got, e, valid(x))
	}
}

// P2.3: the longest lists, and those that are too long.
func TestSumMany(t *testing.T) {
	l := slices.Repeat([]api.Frac{of(-1, 2), of(2, 3)}, api.MaxSum/2)
	got, e := frac.Sum(l)
	want(t, "Sum of 1,000", got, e, of(250, 3))
	got, e = frac.Sum(append(l, zero()))
	fails(t, "Sum of 1,001", got, e, api.ErrMany)
	got, e = frac.Sum(append([]api.Frac{huge(), huge()}, l...))
	fails(t, "ErrMany comes before ErrRange", got, e, api.ErrMany)
}

// P2.3: the elements are added in their order.
func TestSumRange(t *testing.T) {
	huge, tiny := huge(), tiny()
	got, e := frac.Sum([]api.Frac{huge, minus(huge), huge})
	want(t, "Sum", got, e, huge)
	got, e = frac.Sum([]api.Frac{tiny})
	want(t, "Sum", got, e, tiny)
	for _, l := range [][]api.Frac{
		{huge, huge, minus(huge)},
		{minus(huge), huge, huge, huge},
		{tiny, minus(tiny)},
		{of(1, 2), huge, minus(huge)},
	} {
		got, e := frac.Sum(l)
		fails(t, "Sum", got, e, api.ErrRange)
	}
}
