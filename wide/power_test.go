package wide_test

import (
	"math"
	"math/big"
	"math/rand"
	"testing"

	"planisphere/api"
	"planisphere/wide"
)

// common checks the greatest common divisor of two numbers.
func common(t *testing.T, a, b api.Wide) {
	t.Helper()
	x, y := new(big.Int).Abs(toBig(a)), new(big.Int).Abs(toBig(b))
	got, e := wide.Gcd(a, b)
	want(t, "Gcd of "+brief(a)+" and "+brief(b), got, e, new(big.Int).GCD(nil, nil, x, y))
}

// P1.4: Gcd.
func TestGcd(t *testing.T) {
	cases := [][3]int64{{0, 0, 0}, {0, 5, 5}, {-5, 0, 5}, {-12, 18, 6}, {12, -18, 6}, {-12, -18, 6}, {17, 5, 1}, {1, 1, 1}, {math.MinInt64, 6, 2}}
	for _, c := range cases {
		got, e := wide.Gcd(wide.From(c[0]), wide.From(c[1]))
		want(t, "Gcd", got, e, big.NewInt(c[2]))
	}
	eachPair(120, 12, func(a, b api.Wide) { common(t, a, b) })
	r := rand.New(rand.NewSource(41))
	for range 300 {
		a, b, c := random(r, 1+r.Intn(60)), random(r, 1+r.Intn(60)), random(r, r.Intn(30))
		x, y, z := toBig(a), toBig(b), toBig(c)
		common(t, fromBig(x.Mul(x, z)), fromBig(y.Mul(y, z)))
	}
}

// P1.4: Gcd of numbers whose steps all have the quotient 1, of numbers that
// are nearly the same, and of very different ones.
func TestGcdExtremes(t *testing.T) {
	a, b := big.NewInt(1), big.NewInt(1)
	for a.BitLen() < 3000 {
		a, b = b, new(big.Int).Add(a, b)
	}
	common(t, fromBig(a), fromBig(b))
	r := rand.New(rand.NewSource(42))
	for n := range 200 {
		w := random(r, 3+n)
		near := toBig(w)
		common(t, w, fromBig(near.Add(near, big.NewInt(int64(r.Intn(5))))))
		common(t, w, random(r, 3))
		common(t, w, w)
	}
	common(t, greatest(), least())
	common(t, greatest(), power(131071))
	common(t, greatest(), api.Wide{})
	common(t, random(r, 4096), random(r, 4096))
	common(t, random(r, 4096), random(r, 2000))
}

// P1.4: Shift.
func TestShift(t *testing.T) {
	shift := func(w api.Wide, k int) {
		t.Helper()
		n := toBig(w)
		if k >= 0 {
			n.Lsh(n, uint(k))
		} else {
			n.Rsh(n, uint(-k))
		}
		got, e := wide.Shift(w, k)
		want(t, "Shift of "+brief(w), got, e, n)
	}
	each(60, 9, func(w api.Wide) {
		for _, k := range []int{0, 1, 5, 31, 32, 33, 64, 100, 320} {
			shift(w, k)
			shift(w, -k)
		}
		shift(w, -131072)
	})
	for _, k := range []int{-1, -31, -32, -33, -65536, -131071, -131072} {
		shift(greatest(), k)
		shift(least(), k)
		shift(power(131071), k)
		shift(api.Wide{Neg: true, Mag: power(131071).Mag}, k)
	}
	shift(api.Wide{}, 131072)
	shift(wide.From(-1), -131072)
	got, e := wide.Shift(wide.From(-5), -1)
	want(t, "-5 / 2", got, e, big.NewInt(-3))
	got, e = wide.Shift(wide.From(-4), -1)
	want(t, "-4 / 2", got, e, big.NewInt(-2))
}

// P1.4: the exponents that Shift and Pow refuse.
func TestExponents(t *testing.T) {
	for _, k := range []int{math.MinInt, -131073, 131073, math.MaxInt} {
		for _, w := range []api.Wide{{}, wide.From(1), greatest()} {
			got, e := wide.Shift(w, k)
			fails(t, "Shift", got, e, api.ErrArg)
		}
	}
	for _, k := range []int{math.MinInt, -1, 1001, math.MaxInt} {
		for _, w := range []api.Wide{{}, wide.From(1), greatest()} {
			got, e := wide.Pow(w, k)
			fails(t, "Pow", got, e, api.ErrArg)
		}
	}
}

// P1.4: Pow.
func TestPow(t *testing.T) {
	for _, k := range []int{0, 1, 2, 3, 4, 7, 10, 31, 100, 999, 1000} {
		for _, n := range []int64{0, 1, -1, 2, -2, 3, -10, 12345, math.MinInt64} {
			got, e := wide.Pow(wide.From(n), k)
			want(t, "Pow", got, e, new(big.Int).Exp(big.NewInt(n), big.NewInt(int64(k)), nil))
		}
	}
	got, e := wide.Pow(greatest(), 0)
	want(t, "greatest^0", got, e, big.NewInt(1))
}

// root checks the square root of a number.
func root(t *testing.T, w api.Wide) {
	t.Helper()
	got, e := wide.Sqrt(w)
	if w.Neg {
		fails(t, "root of "+brief(w), got, e, api.ErrArg)
		return
	}
	want(t, "root of "+brief(w), got, e, new(big.Int).Sqrt(toBig(w)))
}

// P1.4: Sqrt.
func TestSqrt(t *testing.T) {
	for n := range int64(2000) {
		root(t, wide.From(n))
	}
	each(200, 20, func(w api.Wide) {
		root(t, w)
		square := toBig(w)
		square.Mul(square, square)
		for _, off := range []int64{-1, 0, 1} {
			root(t, fromBig(new(big.Int).Add(square, big.NewInt(off))))
		}
	})
	for _, k := range []int{1, 2, 31, 32, 63, 64, 100, 1000, 131070, 131071} {
		root(t, power(k))
	}
	root(t, greatest())
	root(t, least())
	root(t, wide.From(math.MinInt64))
}
