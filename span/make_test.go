package span_test

import (
	"math"
	"math/big"
	"math/rand"
	"slices"
	"testing"

	"planisphere/api"
	"planisphere/span"
	"planisphere/wide"
)

// P3.2: Whole.
func TestWhole(t *testing.T) {
	limit := int64(1) << 21
	for _, n := range []int64{0, 1, -1, 7, -12345, limit - 1, limit, 1 - limit, -limit} {
		got, e := span.Whole(n)
		is(t, "Whole", got, e, ones(n, n), api.OK)
	}
	// The products of some of these and One are 0 or small as an int64.
	for _, n := range []int64{limit + 1, -limit - 1, 1 << 23, 1 << 24, -1 << 24, 1<<24 + 1, 1 << 40, math.MaxInt64, math.MinInt64} {
		got, e := span.Whole(n)
		is(t, "Whole", got, e, api.Iv{}, api.ErrRange)
	}
}

// of checks Of with a fraction.
func of(t *testing.T, x *big.Rat) {
	t.Helper()
	got, e := span.Of(fraction(x))
	want(t, "Of", got, e, []*big.Rat{x})
}

// P3.2: Of with fractions of one or two limbs.
func TestOf(t *testing.T) {
	third := api.Iv{Lo: 366503875925, Hi: 366503875926}
	got, e := span.Of(fraction(big.NewRat(1, 3)))
	is(t, "Of 1/3", got, e, third, api.OK)
	got, e = span.Of(fraction(big.NewRat(-1, 3)))
	is(t, "Of -1/3", got, e, api.Iv{Lo: -third.Hi, Hi: -third.Lo}, api.OK)
	numbers := []int64{1, 2, 3, 7, 10, one - 1, one, one + 1, 1 << 21, 1<<21 + 1, 1<<21 - 1, most - 1, most, most + 1, math.MaxInt64}
	for _, num := range numbers {
		for _, den := range numbers {
			of(t, big.NewRat(num, den))
			of(t, big.NewRat(-num, den))
		}
	}
	of(t, new(big.Rat))
	r := rand.New(rand.NewSource(21))
	for range 3000 {
		of(t, big.NewRat(random(r), 1+r.Int63n(1<<r.Intn(50))))
	}
}

// P3.2: Of with fractions that are exact, or next to a number of units.
func TestOfExact(t *testing.T) {
	tiny := new(big.Rat).SetFrac(big.NewInt(1), new(big.Int).Lsh(big.NewInt(1), 200))
	for _, n := range []int64{0, 1, -1, one, 12345678912345, -one, most - 1, 1 - most, most, -most} {
		x := number(n)
		got, e := span.Of(fraction(x))
		is(t, "Of", got, e, single(n), api.OK)
		of(t, new(big.Rat).Add(x, tiny))
		of(t, new(big.Rat).Sub(x, tiny))
	}
	for _, n := range []int64{most + 1, -most - 1} {
		got, e := span.Of(fraction(number(n)))
		is(t, "Of a unit too much", got, e, api.Iv{}, api.ErrRange)
	}
}

// P3.2: Of with fractions whose numbers are so long that they have no products
// with One.
func TestOfLong(t *testing.T) {
	r := rand.New(rand.NewSource(22))
	power := new(big.Int).Lsh(big.NewInt(1), 32*api.MaxLimbs)
	for range 3 {
		den := new(big.Int).Rsh(power, uint(r.Intn(50)))
		den.Sub(den, big.NewInt(1+random(r)%1000*2))
		num := new(big.Int).Rand(r, power)
		for _, n := range []*big.Int{num, big.NewInt(1), new(big.Int).Sub(power, big.NewInt(1))} {
			x := new(big.Rat).SetFrac(n, den)
			if x.Denom().BitLen() > 32*api.MaxLimbs {
				continue
			}
			of(t, x)
			of(t, x.Neg(x))
		}
	}
	for _, f := range []api.Frac{huge(), {Num: api.Wide{Neg: true, Mag: huge().Num.Mag}, Den: wide.From(1)}} {
		got, e := span.Of(f)
		is(t, "Of a huge fraction", got, e, api.Iv{}, api.ErrRange)
	}
}

// P3.2: Of with fractions that are not valid.
func TestOfBad(t *testing.T) {
	for _, f := range []api.Frac{
		{}, {Num: wide.From(1)}, {Den: wide.From(2)}, {Num: wide.From(1), Den: wide.From(-2)},
		{Num: wide.From(2), Den: wide.From(4)}, {Num: api.Wide{Neg: true}, Den: wide.From(1)},
		{Num: api.Wide{Mag: []uint32{5, 0}}, Den: wide.From(1)}, {Num: wide.From(1), Den: api.Wide{Mag: []uint32{3, 0}}},
		{Num: api.Wide{Mag: make([]uint32, api.MaxLimbs+1)}, Den: wide.From(1)},
	} {
		got, e := span.Of(f)
		is(t, "Of a bad fraction", got, e, api.Iv{}, api.ErrBad)
	}
}

// spare returns a number with others behind its limbs in memory, and all of
// this memory.
func spare(w api.Wide) (api.Wide, []uint32) {
	all := append(slices.Clone(w.Mag), 0xAAAAAAAA, 0xBBBBBBBB, 0xCCCCCCCC)
	return api.Wide{Neg: w.Neg, Mag: all[:len(w.Mag)]}, all
}

// R2: Of changes neither a fraction nor the memory behind it.
func TestOfMemory(t *testing.T) {
	huge := new(big.Int).Lsh(big.NewInt(1), 32*api.MaxLimbs-1)
	for _, x := range []*big.Rat{
		new(big.Rat), big.NewRat(7, 3), big.NewRat(-7, 3),
		new(big.Rat).SetFrac(new(big.Int).Sub(huge, big.NewInt(5)), huge),
	} {
		f := fraction(x)
		num, allNum := spare(f.Num)
		den, allDen := spare(f.Den)
		if _, e := span.Of(api.Frac{Num: num, Den: den}); e != api.OK {
			t.Error(e)
		}
		_, num0 := spare(f.Num)
		_, den0 := spare(f.Den)
		if !slices.Equal(allNum, num0) || !slices.Equal(allDen, den0) {
			t.Error("an argument has changed")
		}
	}
}
