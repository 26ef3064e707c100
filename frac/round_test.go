package frac_test

import (
	"math/big"
	"testing"

	"planisphere/api"
	"planisphere/frac"
	"planisphere/wide"
)

// floor is a number rounded down.
func floor(x *big.Rat) *big.Int {
	return new(big.Int).Div(x.Num(), x.Denom())
}

// rounded is a number rounded half to even.
func rounded(x *big.Rat) *big.Int {
	n := floor(new(big.Rat).Add(x, big.NewRat(1, 2)))
	isHalf := new(big.Rat).Sub(x, big.NewRat(1, 2)).IsInt()
	if isHalf && n.Bit(0) == 1 {
		n.Sub(n, big.NewInt(1))
	}
	return n
}

// wantWide checks a number against the one that it should be.
func wantWide(t *testing.T, what string, got api.Wide, e api.Errno, w api.Wide) {
	t.Helper()
	if e != api.OK || !sameWide(got, w) {
		t.Errorf("%s: %v and the error %d instead of %v", what, got, e, w)
	}
}

// rounds checks Floor, Ceil and Round of a fraction.
func rounds(t *testing.T, f api.Frac, down, up, near api.Wide) {
	t.Helper()
	got, e := frac.Floor(f)
	wantWide(t, "Floor of "+brief(f), got, e, down)
	got, e = frac.Ceil(f)
	wantWide(t, "Ceil of "+brief(f), got, e, up)
	got, e = frac.Round(f)
	wantWide(t, "Round of "+brief(f), got, e, near)
}

// P2.4: the numbers next to each tie.
func TestTies(t *testing.T) {
	for _, x := range []struct {
		num, den       int64
		down, up, near int64
	}{
		{0, 1, 0, 0, 0}, {4, 1, 4, 4, 4}, {-4, 1, -4, -4, -4}, {5, 1, 5, 5, 5},
		{1, 2, 0, 1, 0}, {3, 2, 1, 2, 2}, {5, 2, 2, 3, 2}, {7, 2, 3, 4, 4},
		{-1, 2, -1, 0, 0}, {-3, 2, -2, -1, -2}, {-5, 2, -3, -2, -2}, {-7, 2, -4, -3, -4},
		{1, 3, 0, 1, 0}, {2, 3, 0, 1, 1}, {4, 3, 1, 2, 1}, {5, 3, 1, 2, 2},
		{-1, 3, -1, 0, 0}, {-2, 3, -1, 0, -1}, {-4, 3, -2, -1, -1}, {-5, 3, -2, -1, -2},
		{1<<33 - 1, 2, 1<<32 - 1, 1 << 32, 1 << 32}, {1<<33 + 1, 2, 1 << 32, 1<<32 + 1, 1 << 32},
	} {
		rounds(t, of(x.num, x.den), wide.From(x.down), wide.From(x.up), wide.From(x.near))
	}
}

// P2.4: ordinary fractions.
func TestRounding(t *testing.T) {
	for _, f := range samples(31, 1500, 300) {
		x := value(f)
		up := floor(new(big.Rat).Neg(x))
		rounds(t, f, whole(floor(x)), whole(up.Neg(up)), whole(rounded(x)))
	}
}

// P2.4: the longest numbers, of which a double has no valid form.
func TestRoundLong(t *testing.T) {
	zero, one, most := api.Wide{}, wide.From(1), greatest()
	almost := api.Frac{Num: greatest(), Den: greatest()}
	almost.Num.Mag[0]--
	above := api.Frac{Num: almost.Den, Den: almost.Num}
	half := api.Frac{Num: power(131071), Den: most}
	below := api.Frac{Num: power(131071), Den: most}
	below.Num = api.Wide{Mag: greatest().Mag}
	below.Num.Mag[api.MaxLimbs-1] = 1<<31 - 1
	rounds(t, api.Frac{Num: most, Den: one}, most, most, most)
	rounds(t, almost, zero, one, one)
	rounds(t, above, one, wide.From(2), one)
	rounds(t, minus(almost), negative(one), zero, negative(one))
	rounds(t, half, zero, one, one)
	rounds(t, below, zero, one, zero)
	rounds(t, minus(half), negative(one), zero, negative(one))
	rounds(t, minus(below), negative(one), zero, zero)
	rounds(t, tiny(), zero, one, zero)
	rounds(t, minus(tiny()), negative(one), zero, zero)
	middle := api.Wide{Mag: below.Num.Mag}
	rounds(t, api.Frac{Num: most, Den: wide.From(2)}, middle, power(131071), power(131071))
	rounds(t, minus(api.Frac{Num: most, Den: wide.From(2)}), negative(power(131071)), negative(middle), negative(power(131071)))
}
