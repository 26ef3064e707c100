package wide_test

import (
	"math"
	"math/big"
	"math/rand"
	"testing"

	"planisphere/api"
	"planisphere/wide"
)

// P1.2: From and Int.
func TestInt64(t *testing.T) {
	for _, n := range []int64{0, 1, -1, 5, -5, 1<<31 - 1, 1 << 31, 1<<32 - 1, 1 << 32, -1 << 32, 1<<62 + 3, math.MaxInt64, -math.MaxInt64, math.MinInt64} {
		w := wide.From(n)
		want(t, "From", w, api.OK, big.NewInt(n))
		if k, e := wide.Int(w); k != n || e != api.OK {
			t.Error("Int", n, k, e)
		}
	}
	for _, s := range []string{"9223372036854775808", "-9223372036854775809", "18446744073709551615", "18446744073709551616", "-79228162514264337593543950336"} {
		n, _ := new(big.Int).SetString(s, 10)
		if k, e := wide.Int(fromBig(n)); k != 0 || e != api.ErrRange {
			t.Error("Int", s, k, e)
		}
	}
	if k, e := wide.Int(greatest()); k != 0 || e != api.ErrRange {
		t.Error("Int of the greatest number", k, e)
	}
}

// P1.2: Neg and Abs.
func TestNegAbs(t *testing.T) {
	each(100, 20, func(w api.Wide) {
		got, e := wide.Neg(w)
		want(t, "Neg "+brief(w), got, e, new(big.Int).Neg(toBig(w)))
		got, e = wide.Abs(w)
		want(t, "Abs "+brief(w), got, e, new(big.Int).Abs(toBig(w)))
	})
	got, e := wide.Neg(greatest())
	want(t, "Neg of the greatest number", got, e, toBig(least()))
	got, e = wide.Abs(least())
	want(t, "Abs of the least number", got, e, toBig(greatest()))
}

// sums checks all that P1.2 says of two numbers.
func sums(t *testing.T, a, b api.Wide) {
	t.Helper()
	x, y := toBig(a), toBig(b)
	what := brief(a) + " and " + brief(b)
	got, e := wide.Add(a, b)
	want(t, "sum of "+what, got, e, new(big.Int).Add(x, y))
	got, e = wide.Sub(a, b)
	want(t, "difference of "+what, got, e, new(big.Int).Sub(x, y))
	got, e = wide.Mul(a, b)
	want(t, "product of "+what, got, e, new(big.Int).Mul(x, y))
	quotient(t, a, b)
}

// quotient checks DivMod with two numbers.
func quotient(t *testing.T, a, b api.Wide) {
	t.Helper()
	q, r, e := wide.DivMod(a, b)
	if len(b.Mag) == 0 {
		fails(t, "quotient by 0", q, e, api.ErrZero)
		fails(t, "remainder by 0", r, e, api.ErrZero)
		return
	}
	// The quotients of package big are rounded so that the remainder is not
	// negative.
	x, y := toBig(a), toBig(b)
	whole, rest := new(big.Int).DivMod(x, y, new(big.Int))
	if y.Sign() < 0 && rest.Sign() > 0 {
		whole.Sub(whole, big.NewInt(1))
		rest.Add(rest, y)
	}
	what := brief(a) + " by " + brief(b)
	want(t, "quotient of "+what, q, e, whole)
	want(t, "remainder of "+what, r, e, rest)
}

// P1.2: sums, differences, products, quotients and remainders.
func TestSums(t *testing.T) {
	eachPair(120, 12, func(a, b api.Wide) { sums(t, a, b) })
	r := rand.New(rand.NewSource(12))
	for range 40 {
		sums(t, random(r, 1+r.Intn(200)), random(r, 1+r.Intn(200)))
	}
}

// P1.2: quotients are rounded down.
func TestRoundedDown(t *testing.T) {
	cases := [][4]int64{
		{7, 2, 3, 1}, {-7, 2, -4, 1}, {7, -2, -4, -1}, {-7, -2, 3, -1},
		{6, 2, 3, 0}, {-6, 2, -3, 0}, {6, -2, -3, 0}, {-6, -2, 3, 0},
		{1, 2, 0, 1}, {-1, 2, -1, 1}, {1, -2, -1, -1}, {-1, -2, 0, -1},
		{0, 5, 0, 0}, {0, -5, 0, 0}, {5, 5, 1, 0}, {-5, 5, -1, 0},
		{math.MinInt64, math.MaxInt64, -2, math.MaxInt64 - 1},
	}
	for _, c := range cases {
		q, r, e := wide.DivMod(wide.From(c[0]), wide.From(c[1]))
		want(t, "quotient", q, e, big.NewInt(c[2]))
		want(t, "remainder", r, e, big.NewInt(c[3]))
	}
	q, r, e := wide.DivMod(wide.From(5), api.Wide{})
	fails(t, "5 by 0", q, e, api.ErrZero)
	fails(t, "5 by 0", r, e, api.ErrZero)
}

// P1.2: quotients whose guessed digits are too great, and have to be corrected.
func TestLongQuotients(t *testing.T) {
	r := rand.New(rand.NewSource(3))
	extreme := []uint32{0, 1, 2, 1<<31 - 1, 1 << 31, 1<<31 + 1, 1<<32 - 2, 1<<32 - 1}
	pick := func(n int) api.Wide {
		mag := make([]uint32, n)
		for i := range mag {
			mag[i] = extreme[r.Intn(len(extreme))]
		}
		mag[n-1] = max(1, mag[n-1])
		return api.Wide{Neg: r.Intn(2) == 0, Mag: mag}
	}
	for range 20000 {
		quotient(t, pick(1+r.Intn(7)), pick(1+r.Intn(4)))
	}
	quotient(t, greatest(), power(65536))
	quotient(t, least(), random(r, 2048))
	quotient(t, random(r, 4096), random(r, 4096))
	quotient(t, greatest(), least())
}

// P1.3: Cmp and Sign.
func TestCmp(t *testing.T) {
	check := func(a, b api.Wide) {
		if c, e := wide.Cmp(a, b); c != toBig(a).Cmp(toBig(b)) || e != api.OK {
			t.Error("Cmp", brief(a), brief(b), c, e)
		}
	}
	eachPair(100, 4, check)
	near := greatest()
	near.Mag[0]--
	for _, a := range []api.Wide{greatest(), least(), near, {}} {
		for _, b := range []api.Wide{greatest(), least(), near, {}} {
			check(a, b)
		}
	}
	each(100, 9, func(w api.Wide) {
		if s, e := wide.Sign(w); s != toBig(w).Sign() || e != api.OK {
			t.Error("Sign", brief(w), s, e)
		}
	})
}

// P1.3: Bits.
func TestBits(t *testing.T) {
	each(100, 9, func(w api.Wide) {
		if n, e := wide.Bits(w); n != toBig(w).BitLen() || e != api.OK {
			t.Error("Bits", brief(w), n, e)
		}
	})
	for _, k := range []int{0, 1, 31, 32, 33, 63, 64, 131071} {
		if n, e := wide.Bits(power(k)); n != k+1 || e != api.OK {
			t.Error("Bits", k, n, e)
		}
	}
	if n, e := wide.Bits(least()); n != 131072 || e != api.OK {
		t.Error("Bits of the least number", n, e)
	}
}
